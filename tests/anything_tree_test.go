package tests

import (
	"math"
	"slices"
	"testing"

	"loop.example/g00780/impl"
)

// moved has the points of a list so much farther to the right, those that are not good where they are.
func moved(l []impl.Point, by int) []impl.Point {
	m := slices.Clone(l)
	for i, p := range m {
		if allWithin(impl.MaxXY, p) {
			m[i].X += by
		}
	}
	return m
}

// chainLists are lower chains, and lists that are none for being too long, out of order, in line, turning right or not good.
func chainLists() [][]impl.Point {
	l := append(pointLists(), wrongChains()...)
	return append(l, squareHull(), star(), caps(), bowl(7), bowl(impl.MaxPoints), bowl(impl.MaxPoints+1), bent(impl.MaxPoints, -30, 0, 0), bent(9, 0, 8, -5))
}

func TestPromise18AnyBridges(t *testing.T) {
	lists := chainLists()
	for i, a := range lists {
		for k, b := range lists {
			for x, by := range []int{0, 100, 2000} {
				at := []int{0, 1, len(a) / 2, len(a) - 1, len(a), -1, math.MinInt, math.MaxInt}[(i+k+x)%8]
				to := []int{0, len(b) - 1, len(b) / 2, 1, len(b), -1, math.MaxInt, math.MinInt}[(i+2*k+3*x)%8]
				checkPair(t, a, moved(b, by), at, to, []int{0, 1, 200}[(i+k)%3])
			}
		}
	}
}

// One point of one chain is changed for one that is not good, in one line, at the wrong place or there twice.
func TestPromise18OnePointWrongOfAChain(t *testing.T) {
	for _, n := range []int{1, 2, 3, 4, 9} {
		for place := range n {
			for _, p := range append(anyPoints(), bent(n, -20, 1, 0)...) {
				a, b := bent(n, -20, n/2, 0), bent(n, 20, n/2, 0)
				a[place] = p
				checkPair(t, a, b, n/2, 0, 2)
				a, b = bent(n, -20, n/2, 0), bent(n, 20, n/2, 0)
				b[place] = p
				checkPair(t, a, b, n/2, n-1, 2)
			}
		}
	}
}

func TestPromise18ManyBridges(t *testing.T) {
	n := numbers{state: 74}
	for range 3000 {
		most := []int{1, 3, 9, impl.MaxXY, impl.MaxXY + 1}[n.word()%5]
		a, b := someList(&n, most), someList(&n, most)
		if s := ordered(a); len(s) > 1 && n.word()%4 > 0 && modelGood(s) {
			a, b = bothChains(s, 1+int(n.word()%uint64(len(s)-1)))
		}
		checkPair(t, a, b, n.within(len(a)+1), n.within(len(b)+1), int(n.word()%4))
	}
}

// trees are good ones and others, at the edges that the document names.
func trees() []impl.HullTree {
	l := []impl.HullTree{{}, {Points: []impl.Point{}, Nodes: []impl.Leaf{}}, {Nodes: []impl.Leaf{{To: 1}}}, {Points: bowl(1)}, {Points: bowl(2), Nodes: []impl.Leaf{{To: 2}}}}
	for _, s := range pointLists() {
		tree, ok := modelTree(s)
		if !ok {
			tree, _ = modelTree(bowl(min(len(s)+1, impl.MaxPoints)))
			tree.Points = s
		}
		l = append(l, tree)
	}
	for _, n := range []int{2, 3, 4, 7} {
		tree, _ := modelTree(bowl(n))
		for i := range tree.Nodes {
			for _, change := range []func(n *impl.Leaf){
				func(n *impl.Leaf) { n.From++ }, func(n *impl.Leaf) { n.To-- }, func(n *impl.Leaf) { n.Left++ }, func(n *impl.Leaf) { n.Right = math.MinInt },
				func(n *impl.Leaf) { n.Bridge = append(n.Bridge, 0) }, func(n *impl.Leaf) { n.Bridge = n.Bridge[:len(n.Bridge)/2] }, func(n *impl.Leaf) {},
			} {
				b := cloneTree(tree)
				change(&b.Nodes[i])
				l = append(l, b)
			}
		}
	}
	return l
}

func TestPromise18AnyTrees(t *testing.T) {
	for i, tree := range trees() {
		for k, p := range anyPoints() {
			many := len(tree.Nodes)
			node := []int{0, 1, many / 2, many - 1, many, -1, math.MinInt, math.MaxInt}[(i+k)%8]
			point := []int{0, 1, many / 2, many/2 - 1, many/2 + 1, -1, math.MaxInt, math.MinInt}[(i+2*k)%8]
			checkTreeAt(t, tree, node, point, p, []int{0, 1, 200}[k%3])
		}
	}
}

func TestPromise18AnyBuiltTrees(t *testing.T) {
	for _, room := range []int{0, 1, 200} {
		for _, s := range ringLists() {
			points := lay(s, room)
			tree, ok := impl.BuildTree(points.list)
			want, is := modelTree(s)
			checkGrown(t, "BuildTree", tree, nil, ok, want, nil, is, points)
		}
	}
}

func TestPromise18ManyTrees(t *testing.T) {
	n := numbers{state: 75}
	for range 400 {
		most := []int{1, 3, 9, impl.MaxXY}[n.word()%4]
		s := someList(&n, most)
		s = s[:min(len(s), int(n.word()%20))]
		tree, ok := modelTree(s)
		if ok && n.word()%3 == 0 {
			wrong := wrongLeaves(tree.Nodes[0], len(s), len(tree.Nodes))
			tree.Nodes[0] = wrong[n.word()%uint64(len(wrong))]
		}
		many := len(tree.Nodes)
		checkTreeAt(t, tree, n.within(many+1), n.within(len(s)+1), n.point(most+1), int(n.word()%4))
		checkTreeAt(t, tree, many/2, len(s)/2, n.point(most+1), int(n.word()%4))
	}
}

// scribble writes into all of a tree's memory.
func scribble(t impl.HullTree) {
	for i := range t.Points[:cap(t.Points)] {
		t.Points[:cap(t.Points)][i] = impl.Point{X: 9, Y: -9}
	}
	for i, n := range t.Nodes[:cap(t.Nodes)] {
		for k := range n.Bridge[:cap(n.Bridge)] {
			n.Bridge[:cap(n.Bridge)][k] = 77
		}
		t.Nodes[:cap(t.Nodes)][i].From = 5
	}
}

// Nothing is kept, and no answer shares memory with another one, or with the tree that it is told of.
func TestPromise18TreesAskedAgain(t *testing.T) {
	for _, s := range [][]impl.Point{bowl(1), bowl(2), grid(3), bowl(impl.MaxPoints - 1)} {
		tree, _ := impl.BuildTree(s)
		want := cloneTree(tree)
		with, way, _ := impl.RebuildWith(tree, impl.Point{X: -100})
		first := cloneTree(with)
		for range 3 {
			one, _ := impl.BuildTree(s)
			scribble(one)
			scribble(with)
			two, ok := impl.BuildTree(s)
			again, path, is := impl.RebuildWith(tree, impl.Point{X: -100})
			if !ok || !is || !sameTree(two, want) || !sameTree(again, first) || !sameTree(tree, want) || !slices.Equal(path, way) {
				t.Fatal("asked again", s, two, again, tree, path)
			}
			with = again
			for node := range tree.Nodes {
				one, _ := impl.LowerAt(tree, node)
				lower := slices.Clone(one)
				one[0], one[len(one)-1] = behind, behind
				if two, ok := impl.LowerAt(tree, node); !ok || !slices.Equal(two, lower) || !sameTree(tree, want) {
					t.Fatal("LowerAt asked again", s, node, two, ok)
				}
			}
			steps, _ := impl.PathTo(tree, 0)
			steps[0] = 55
			if two, ok := impl.PathTo(tree, 0); !ok || two[0] != 0 || !sameTree(tree, want) {
				t.Fatal("PathTo asked again", s, two, ok)
			}
		}
	}
	a, b := bowl(4)[:2], bowl(4)[2:]
	one, _ := impl.MergeLower(a, b)
	one[0], one[3] = behind, behind
	if two, ok := impl.MergeLower(a, b); !ok || !slices.Equal(two, bowl(4)) || !slices.Equal(a, bowl(4)[:2]) || !slices.Equal(b, bowl(4)[2:]) {
		t.Fatal("MergeLower asked again", two, ok)
	}
}

// Two chains that lie in one list, the second one behind the length of the first, and trees of which lists are pieces of longer ones.
func TestPromise18BehindTrees(t *testing.T) {
	whole := bowl(9)
	merged, ok := impl.MergeLower(whole[:4], whole[4:])
	if !ok || !slices.Equal(merged, bowl(9)) {
		t.Fatal("MergeLower", merged, ok)
	}
	merged[0], merged[5] = behind, behind
	if !slices.Equal(whole, bowl(9)) {
		t.Fatal("MergeLower shares memory", whole)
	}
	tree, _ := impl.BuildTree(bowl(3))
	longer, _ := impl.BuildTree(bowl(5))
	for many := range len(longer.Nodes) {
		if impl.GoodTree(impl.HullTree{Points: tree.Points, Nodes: longer.Nodes[:many]}) {
			t.Error("a piece of a tree", many)
		}
	}
	if tree.Nodes[0].Bridge = append(tree.Nodes[0].Bridge, 9)[:2]; !impl.GoodTree(tree) {
		t.Error("a bridge with a number behind its length")
	}
	if tree.Nodes[1].Bridge = []int{0, 1}[:0]; !impl.GoodTree(tree) {
		t.Error("an empty bridge with numbers behind its length")
	}
	if tree.Nodes = append(tree.Nodes, impl.Leaf{From: 9})[:5]; !impl.GoodTree(tree) {
		t.Error("nodes with one behind their length")
	}
}
