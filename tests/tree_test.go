package tests

import (
	"math"
	"slices"
	"testing"

	"loop.example/g00780/impl"
)

// bothChains has the lower chains of the points of a set ahead of k and from k on.
func bothChains(s []impl.Point, k int) ([]impl.Point, []impl.Point) {
	a, _ := modelLower(s[:k])
	b, _ := modelLower(s[k:])
	return a, b
}

func TestPromise7AllSmallChains(t *testing.T) {
	for _, points := range [][]impl.Point{field(3, 4), field(4, 3), field(6, 2)} {
		for k := range 1 << len(points) {
			s := subset(points, k)
			for cut := 1; cut < len(s); cut++ {
				a, b := bothChains(s, cut)
				checkOneBridge(t, a, b)
			}
		}
	}
}

func TestPromise7ManyChains(t *testing.T) {
	n := numbers{state: 70}
	for range 1500 {
		most := []int{1, 3, 9, 1000, impl.MaxXY}[n.word()%5]
		s := someSet(&n, most)
		if len(s) < 2 {
			continue
		}
		a, b := bothChains(s, 1+int(n.word()%uint64(len(s)-1)))
		checkOneBridge(t, a, b)
	}
}

// bent has n points on a curve that turns left, from x on, lowest in its middle, or at its first or last point, and by so much higher.
func bent(n, x, lowest, higher int) []impl.Point {
	var l []impl.Point
	for i := range n {
		l = append(l, impl.Point{X: x + i, Y: (i-lowest)*(i-lowest) + higher})
	}
	return l
}

// Chains that only turn left, of many lengths and heights, lowest anywhere.
func TestPromise7ManyBends(t *testing.T) {
	n := numbers{state: 71}
	for range 600 {
		many := func() int { return 1 + int(n.word()%20) }
		a := bent(many(), -20, many()-5, n.within(300))
		b := bent(many(), n.within(1)+1, many()-5, n.within(300))
		checkOneBridge(t, a, b)
	}
}

func TestPromise7LongChains(t *testing.T) {
	m := impl.MaxPoints
	for _, c := range []struct {
		name string
		a, b []impl.Point
		i, j int
	}{
		{"last and first", bowl(2 * m)[:m], bowl(2 * m)[m:], m - 1, 0},
		{"first and last", bent(m, 0, 0, 0), bent(m, m, m-1, 0), 0, m - 1},
		{"first and first", bent(m, 0, 0, 0), bent(m, m, 0, 0), 0, 0},
		{"last and last", bent(m, 0, m-1, 0), bent(m, m, m-1, 0), m - 1, m - 1},
		{"lowest and lowest", bent(m, 0, 20, 0), bent(m, m, 30, 0), 20, 30},
		{"wholly below", bent(m, 0, 20, 0), bent(m, m, 30, 1600), 31, 41},
		{"wholly above", bent(m, 0, 20, 1600), bent(m, m, 30, 0), 9, 19},
		{"far below", bent(m, 0, 20, -900000), bent(m, m, 30, 900000), 59, 59},
		{"far above", bent(m, 0, 20, 900000), bent(m, m, 30, -900000), 0, 0},
		{"one point, far above", bent(m, 0, 20, 0), []impl.Point{{X: m, Y: 900000}}, 59, 0},
		{"one point, far below", bent(m, 0, 20, 0), []impl.Point{{X: m, Y: -900000}}, 0, 0},
		{"one point, in the same row", bent(m, 0, 20, 0), []impl.Point{{X: m, Y: 0}}, 20, 0},
		{"one point ahead, far above", []impl.Point{{X: -1, Y: 900000}}, bent(m, 0, 20, 0), 0, 0},
		{"one point ahead, far below", []impl.Point{{X: -1, Y: -900000}}, bent(m, 0, 20, 0), 0, 59},
	} {
		i, j := checkOneBridge(t, c.a, c.b)
		if i != c.i || j != c.j {
			t.Error(c.name, i, j)
		}
	}
	merged, ok := impl.MergeLower(bowl(2 * m)[:m], bowl(2 * m)[m:])
	if !ok || !slices.Equal(merged, bowl(2*m)) {
		t.Error("MergeLower of two chains that both stay whole", merged, ok)
	}
	for cut := 1; cut < m; cut++ {
		if i, j := checkOneBridge(t, bowl(m)[:cut], bowl(m)[cut:]); i != cut-1 || j != 0 {
			t.Error("a bowl cut", cut, i, j)
		}
	}
}

func TestPromise7NamedBridges(t *testing.T) {
	m := impl.MaxXY
	for _, c := range []struct {
		name string
		a, b []impl.Point
		i, j int
	}{
		{"one point each", []impl.Point{{X: 0, Y: 0}}, []impl.Point{{X: 1, Y: -9}}, 0, 0},
		{"one point each, one over the other", []impl.Point{{X: 0, Y: 0}}, []impl.Point{{X: 0, Y: 1}}, 0, 0},
		{"two points each, both outer ones", []impl.Point{{X: 0, Y: 0}, {X: 1, Y: 5}}, []impl.Point{{X: 2, Y: 5}, {X: 3, Y: 0}}, 0, 1},
		{"two points each, both inner ones", []impl.Point{{X: 0, Y: 5}, {X: 1, Y: 0}}, []impl.Point{{X: 2, Y: 0}, {X: 3, Y: 5}}, 1, 0},
		// In one line with the bridge.
		{"two of a in line", []impl.Point{{X: 0, Y: 0}, {X: 1, Y: 1}}, []impl.Point{{X: 2, Y: 2}}, 0, 0},
		{"two of b in line", []impl.Point{{X: 0, Y: 0}}, []impl.Point{{X: 1, Y: 1}, {X: 2, Y: 2}}, 0, 1},
		{"two of both in line", []impl.Point{{X: 0, Y: 0}, {X: 1, Y: 1}}, []impl.Point{{X: 2, Y: 2}, {X: 3, Y: 3}}, 0, 1},
		{"two of both in line, falling", []impl.Point{{X: 0, Y: 6}, {X: 2, Y: 3}}, []impl.Point{{X: 4, Y: 0}, {X: 6, Y: -3}}, 0, 1},
		{"in line, with others ahead and behind", []impl.Point{{X: -1, Y: 5}, {X: 0, Y: 0}, {X: 1, Y: 0}}, []impl.Point{{X: 2, Y: 0}, {X: 4, Y: 0}, {X: 5, Y: 7}}, 1, 1},
		{"in line, with others between", []impl.Point{{X: 0, Y: 0}, {X: 2, Y: 0}, {X: 3, Y: 4}}, []impl.Point{{X: 4, Y: 4}, {X: 5, Y: 0}, {X: 7, Y: 0}, {X: 8, Y: 1}}, 0, 2},
		{"nearly in line, one above", []impl.Point{{X: 0, Y: 0}, {X: 3, Y: 1}}, []impl.Point{{X: 6, Y: 1}}, 0, 0},
		{"nearly in line, one below", []impl.Point{{X: 0, Y: 0}, {X: 3, Y: 0}}, []impl.Point{{X: 6, Y: 1}}, 1, 0},
		// The last of a and the first of b have the same X.
		{"the same X, both alone", []impl.Point{{X: 0, Y: 0}, {X: 0, Y: 1}}, []impl.Point{{X: 0, Y: 2}, {X: 0, Y: 3}}, 0, 1},
		{"the same X, b goes on below", []impl.Point{{X: -1, Y: 1}, {X: 0, Y: 0}, {X: 0, Y: 1}}, []impl.Point{{X: 0, Y: 2}, {X: 1, Y: 0}}, 1, 1},
		{"the same X, b goes on in line", []impl.Point{{X: -1, Y: 0}, {X: 0, Y: 0}, {X: 0, Y: 1}}, []impl.Point{{X: 0, Y: 2}, {X: 1, Y: 0}}, 0, 1},
		{"the same X, b goes on far below", []impl.Point{{X: -1, Y: 1}, {X: 0, Y: 0}}, []impl.Point{{X: 0, Y: 1}, {X: 1, Y: -9}}, 0, 1},
		{"the same X, b goes no farther", []impl.Point{{X: -1, Y: 0}, {X: 0, Y: 0}}, []impl.Point{{X: 0, Y: 1}, {X: 0, Y: 2}}, 1, 1},
		{"the same X, b goes on above", []impl.Point{{X: -2, Y: 1}, {X: 0, Y: -5}}, []impl.Point{{X: 0, Y: 7}, {X: 1, Y: 7}}, 1, 1},
		// The greatest differences there are.
		{"from corner to corner", []impl.Point{{X: -m, Y: -m}, {X: -m, Y: m}}, []impl.Point{{X: m, Y: -m}, {X: m, Y: m}}, 0, 0},
		{"in the longest line", []impl.Point{{X: -m, Y: -m}, {X: -1, Y: -1}}, []impl.Point{{X: 1, Y: 1}, {X: m, Y: m}}, 0, 1},
		{"below the longest line", []impl.Point{{X: -m, Y: -m}, {X: 0, Y: -1}}, []impl.Point{{X: 1, Y: 1}, {X: m, Y: m}}, 1, 1},
		{"above the longest line", []impl.Point{{X: -m, Y: -m}, {X: -1, Y: 0}}, []impl.Point{{X: 0, Y: 1}, {X: m, Y: m}}, 0, 1},
		{"down the longest line", []impl.Point{{X: -m, Y: m}, {X: 0, Y: -1}}, []impl.Point{{X: 0, Y: 0}, {X: m, Y: -m}}, 1, 1},
		{"upright, the longest", []impl.Point{{X: m, Y: -m}, {X: m, Y: 0}}, []impl.Point{{X: m, Y: 1}, {X: m, Y: m}}, 0, 1},
	} {
		if i, j := checkOneBridge(t, c.a, c.b); i != c.i || j != c.j {
			t.Error(c.name, i, j)
		}
	}
}

// wrongChains are no lower chains with a point at least, all of them ahead of 50, 0 and behind -50, 0.
func wrongChains() [][]impl.Point {
	m := impl.MaxXY
	a, b, c := impl.Point{X: 0, Y: 0}, impl.Point{X: 1, Y: 0}, impl.Point{X: 2, Y: 1}
	return [][]impl.Point{
		nil, {}, bent(impl.MaxPoints+1, -30, 9, 0), bent(90, -45, 9, 0),
		{b, a}, {a, a}, {a, b, b}, {a, c, b}, {c, b, a}, {a, b, c, c}, {{X: 0, Y: 1}, a},
		{a, b, {X: 2, Y: 0}}, {a, b, {X: 2, Y: -1}}, {a, b, c, {X: 3, Y: 2}}, {a, b, c, {X: 3, Y: 1}}, {{X: -1, Y: -1}, a, b}, {a, {X: 0, Y: 3}, b}, {a, {X: 0, Y: 3}, {X: 0, Y: 4}},
		{{X: 0, Y: m + 1}}, {{X: 0, Y: -m - 1}}, {a, {X: 1, Y: m + 1}}, {{X: -1, Y: m + 1}, a}, {a, {X: 1, Y: math.MaxInt}}, {{X: -1, Y: math.MinInt}, a}, {a, {X: 1, Y: -m - 1}, {X: 2, Y: 0}},
	}
}

// checkNoBridge asks for the zero answer of all that takes two chains.
func checkNoBridge(t *testing.T, a, b []impl.Point) {
	t.Helper()
	if i, j, ok := impl.BridgeOf(a, b); i != 0 || j != 0 || ok {
		t.Error("BridgeOf", a, b, i, j, ok)
	}
	if l, ok := impl.MergeLower(a, b); len(l) != 0 || ok {
		t.Error("MergeLower", a, b, l, ok)
	}
	for _, pair := range [][2]int{{0, 0}, {len(a) - 1, 0}, {0, len(b) - 1}, {len(a) - 1, len(b) - 1}} {
		if is, ok := impl.IsBridge(a, b, pair[0], pair[1]); is || ok {
			t.Error("IsBridge", a, b, pair, is, ok)
		}
	}
}

func TestPromise7NoChains(t *testing.T) {
	m := impl.MaxXY
	for _, l := range wrongChains() {
		for _, other := range wrongChains() {
			checkNoBridge(t, l, other)
		}
		for _, n := range []int{1, 2, 5} {
			checkNoBridge(t, l, bent(n, 50, 1, 0))
			checkNoBridge(t, bent(n, -50, 1, 0), l)
		}
	}
	for _, p := range []impl.Point{{X: m + 1}, {X: math.MaxInt}, {X: m + 1, Y: math.MinInt}} {
		checkNoBridge(t, bent(3, 0, 1, 0), []impl.Point{p})
		checkNoBridge(t, []impl.Point{{X: -p.X, Y: p.Y}}, bent(3, 0, 1, 0))
	}
	// Both are chains, but not each point of a is less than each of b.
	for _, c := range [][2][]impl.Point{
		{bent(3, 0, 1, 0), bent(3, 2, 1, 0)}, {bent(3, 0, 1, 0), bent(3, 0, 1, 0)}, {bent(3, 3, 1, 0), bent(3, 0, 1, 0)}, {bent(3, 0, 1, 0), bent(3, 1, 1, 50)},
		{[]impl.Point{{X: 1}}, []impl.Point{{X: 1}}}, {[]impl.Point{{X: 1, Y: 1}}, []impl.Point{{X: 1, Y: 0}}}, {[]impl.Point{{X: 2}}, []impl.Point{{X: 1}}},
		{[]impl.Point{{X: 0}, {X: 1}}, []impl.Point{{X: 1}, {X: 2}}}, {[]impl.Point{{X: 0}, {X: 1, Y: 2}}, []impl.Point{{X: 1, Y: 1}, {X: 2}}}, {[]impl.Point{{X: 0}, {X: 5}}, []impl.Point{{X: 1}, {X: 6}}},
	} {
		checkNoBridge(t, c[0], c[1])
	}
}

func TestPromise7NoSuchNumbers(t *testing.T) {
	a, b := bent(4, 0, 1, 0), bent(3, 4, 1, 0)
	for _, no := range []int{-1, math.MinInt, math.MaxInt, 60, 4} {
		for _, pair := range [][2]int{{no, 0}, {1, no}, {no, no}} {
			if is, ok := impl.IsBridge(a, b, pair[0], pair[1]); is || ok {
				t.Error("IsBridge", pair, is, ok)
			}
		}
	}
	// What is no number of b is one of a, and the other way round.
	for _, c := range []struct {
		i, j   int
		is, ok bool
	}{{1, 1, true, true}, {3, 2, false, true}, {3, 3, false, false}, {2, 3, false, false}, {4, 2, false, false}} {
		if is, ok := impl.IsBridge(a, b, c.i, c.j); is != c.is || ok != c.ok {
			t.Error("IsBridge", c, is, ok)
		}
	}
}

func TestPromise7AllSmallTrees(t *testing.T) {
	square := grid(3)
	for k := 1; k < 1<<len(square); k++ {
		s := subset(square, k)
		tree := checkWholeTree(t, s)
		for _, p := range square {
			checkRebuilt(t, tree, p)
		}
	}
}

func TestPromise7ManyTrees(t *testing.T) {
	n := numbers{state: 72}
	for range 150 {
		most := []int{3, 9, 1000, impl.MaxXY}[n.word()%4]
		if s := someSet(&n, most); len(s) > 0 {
			checkRebuilt(t, checkWholeTree(t, s), n.point(most))
		}
	}
}

// Each name counts the nodes in the order in which they stand: a node, all of its Left, all of its Right.
func TestPromise7NamedTrees(t *testing.T) {
	row := rowList(1, 6)
	tip := func(k int) impl.Leaf { return impl.Leaf{From: k, To: k + 1} }
	fork := func(from, to, left, right, i, j int) impl.Leaf {
		return impl.Leaf{From: from, To: to, Left: left, Right: right, Bridge: []int{i, j}}
	}
	for _, c := range []struct {
		s    []impl.Point
		want []impl.Leaf
	}{
		{row[:1], []impl.Leaf{tip(0)}},
		{row[:2], []impl.Leaf{fork(0, 2, 1, 2, 0, 1), tip(0), tip(1)}},
		{row[:3], []impl.Leaf{fork(0, 3, 1, 2, 0, 2), tip(0), fork(1, 3, 3, 4, 1, 2), tip(1), tip(2)}},
		{row[:4], []impl.Leaf{fork(0, 4, 1, 4, 0, 3), fork(0, 2, 2, 3, 0, 1), tip(0), tip(1), fork(2, 4, 5, 6, 2, 3), tip(2), tip(3)}},
		{bowl(3), []impl.Leaf{fork(0, 3, 1, 2, 0, 1), tip(0), fork(1, 3, 3, 4, 1, 2), tip(1), tip(2)}},
		{bowl(5), []impl.Leaf{
			fork(0, 5, 1, 4, 1, 2), fork(0, 2, 2, 3, 0, 1), tip(0), tip(1),
			fork(2, 5, 5, 6, 2, 3), tip(2), fork(3, 5, 7, 8, 3, 4), tip(3), tip(4)}},
		{[]impl.Point{{X: 0, Y: 2}, {X: 1, Y: 0}, {X: 2, Y: 1}, {X: 4, Y: 3}, {X: 5, Y: 0}}, []impl.Leaf{
			fork(0, 5, 1, 4, 1, 4), fork(0, 2, 2, 3, 0, 1), tip(0), tip(1),
			fork(2, 5, 5, 6, 2, 4), tip(2), fork(3, 5, 7, 8, 3, 4), tip(3), tip(4)}},
	} {
		if tree := checkWholeTree(t, c.s); !slices.EqualFunc(tree.Nodes, c.want, sameLeaf) {
			t.Error("BuildTree", c.s, tree.Nodes)
		}
	}
}

// fullSets have n points each: a bowl, one in a line, an upright row and a square full inside.
func fullSets(n int) [][]impl.Point {
	m := impl.MaxXY
	return [][]impl.Point{bowl(n), line(n, -9, 4, impl.Point{X: 3, Y: -2}), line(n, m, -m, impl.Point{Y: 30000}), grid(8)[:n], ordered(eye(n + n%2))[:n]}
}

func TestPromise7TreesOfEachSize(t *testing.T) {
	for n := 1; n <= impl.MaxPoints; n++ {
		for _, s := range fullSets(n) {
			tree := checkWholeTree(t, s)
			if len(tree.Nodes) != 2*n-1 || tree.Nodes[0].From != 0 || tree.Nodes[0].To != n {
				t.Fatal("how many nodes", n, tree.Nodes)
			}
			if first, _ := impl.PathTo(tree, 0); slices.Max(first) != len(first)-1 {
				t.Error("the way to the first point goes by Left alone", s, first)
			}
			if last, _ := impl.PathTo(tree, n-1); last[len(last)-1] != 2*n-2 {
				t.Error("the way to the last point ends at the last node", s, last)
			}
		}
	}
	s := bowl(impl.MaxPoints)
	tree := checkWholeTree(t, s)
	if l, ok := impl.LowerAt(tree, 0); !ok || !slices.Equal(l, s) {
		t.Error("the whole bowl", l, ok)
	}
	if l, ok := impl.PathTo(tree, 59); !ok || !slices.Equal(l, []int{0, 60, 90, 104, 112, 116, 118}) {
		t.Error("PathTo the last of 60", l, ok)
	}
}

func TestPromise7NoTrees(t *testing.T) {
	m := impl.MaxXY
	a, b, c := impl.Point{X: 0, Y: 0}, impl.Point{X: 4, Y: 0}, impl.Point{X: 4, Y: 3}
	for _, s := range [][]impl.Point{
		nil, {}, {b, a}, {a, a}, {a, c, b}, {a, b, b}, {a, b, c, a}, {c, b},
		{{X: m + 1}}, {{Y: -m - 1}}, {a, b, {X: m + 1}}, {{X: -m - 1}, a, b}, {a, b, {X: 4, Y: m + 1}}, {{X: math.MinInt, Y: math.MinInt}},
		bowl(impl.MaxPoints + 1), rightward(1000, 0),
	} {
		if tree, ok := impl.BuildTree(s); len(tree.Points) != 0 || len(tree.Nodes) != 0 || ok {
			t.Error("BuildTree", s, tree, ok)
		}
		// Not even with the nodes of a tree.
		for _, n := range []int{1, 2, 3, impl.MaxPoints} {
			tree, _ := modelTree(bowl(n))
			checkNoTree(t, impl.HullTree{Points: s, Nodes: tree.Nodes})
		}
		checkNoTree(t, impl.HullTree{Points: s})
		checkNoTree(t, impl.HullTree{Points: s, Nodes: []impl.Leaf{{}}})
		checkNoTree(t, impl.HullTree{Points: s, Nodes: []impl.Leaf{{To: len(s)}}})
	}
}

// Two points that are no set are no tree, whatever numbers their bridge has.
func TestPromise7NoTreesOfTwo(t *testing.T) {
	for _, s := range [][]impl.Point{{{X: 4}, {X: 0}}, {{X: 4}, {X: 4}}, {{Y: 1}, {Y: 0}}, {{X: 1, Y: -1}, {X: 0, Y: 9}}, {{X: 0}, {X: impl.MaxXY + 1}}} {
		for _, i := range []int{-1, 0, 1, 2} {
			for _, j := range []int{-1, 0, 1, 2} {
				tree, _ := modelTree(bowl(2))
				tree.Points, tree.Nodes[0].Bridge = s, []int{i, j}
				checkNoTree(t, tree)
			}
		}
	}
}

// checkNoTree asks that all of chapter 7 gives the zero answer for a tree that is not good, though all else is.
func checkNoTree(t *testing.T, tree impl.HullTree) {
	t.Helper()
	if impl.GoodTree(tree) {
		t.Fatal("GoodTree", tree)
	}
	for _, k := range []int{0, 1} {
		l, one := impl.LowerAt(tree, k)
		path, two := impl.PathTo(tree, k)
		now, way, three := impl.RebuildWith(tree, impl.Point{X: 5, Y: k - 900})
		if one || two || three || len(l)+len(path)+len(now.Points)+len(now.Nodes)+len(way) > 0 {
			t.Fatal("told of a tree that is not good", tree, l, path, now, way, one, two, three)
		}
	}
}

// wrongLeaves has the nodes that may not stand at the place of a good one, each of them unlike it in one thing.
func wrongLeaves(good impl.Leaf, points, nodes int) []impl.Leaf {
	var l []impl.Leaf
	add := func(change func(n *impl.Leaf)) {
		n := good
		change(&n)
		if !sameLeaf(n, good) {
			l = append(l, n)
		}
	}
	for _, k := range []int{good.From - 1, good.From + 1, good.To, 0, -1, points, math.MinInt, math.MaxInt} {
		add(func(n *impl.Leaf) { n.From = k })
	}
	for _, k := range []int{good.To - 1, good.To + 1, good.From, 0, points, points + 1, math.MinInt, math.MaxInt} {
		add(func(n *impl.Leaf) { n.To = k })
	}
	for _, k := range []int{good.Left - 1, good.Left + 1, good.Right, 0, 1, -1, nodes - 1, nodes, math.MinInt, math.MaxInt} {
		add(func(n *impl.Leaf) { n.Left = k })
	}
	for _, k := range []int{good.Right - 1, good.Right + 1, good.Left, 0, 1, -1, nodes - 1, nodes, math.MinInt, math.MaxInt} {
		add(func(n *impl.Leaf) { n.Right = k })
	}
	add(func(n *impl.Leaf) { n.Left, n.Right = n.Right, n.Left })
	bridges := [][]int{nil, {0}, {0, 0}, {0, 1}, {1, 0}, {good.From}, {good.From, good.To - 1}, {good.From, good.From}, {0, 1, 2}, make([]int, 100)}
	if len(good.Bridge) == 2 {
		i, j := good.Bridge[0], good.Bridge[1]
		bridges = append(bridges, []int{i}, []int{j}, []int{i, j, j}, []int{i, j, 0}, []int{0, i, j}, []int{j, i}, []int{i - 1, j}, []int{i + 1, j}, []int{i, j - 1}, []int{i, j + 1}, []int{math.MinInt, j}, []int{i, math.MaxInt})
	}
	for _, bridge := range bridges {
		add(func(n *impl.Leaf) { n.Bridge = bridge })
	}
	return l
}

func TestPromise7WrongNodes(t *testing.T) {
	for _, s := range [][]impl.Point{bowl(1), bowl(2), bowl(3), rowList(1, 4), bowl(5), grid(3), bowl(17), grid(8)[:impl.MaxPoints]} {
		tree, ok := impl.BuildTree(s)
		if !ok {
			t.Fatal("BuildTree", s)
		}
		for i, good := range tree.Nodes {
			for _, wrong := range wrongLeaves(good, len(s), len(tree.Nodes)) {
				b := cloneTree(tree)
				b.Nodes[i] = wrong
				checkNoTree(t, b)
			}
			b := cloneTree(tree)
			b.Nodes = slices.Delete(b.Nodes, i, i+1)
			checkNoTree(t, b)
			b = cloneTree(tree)
			b.Nodes = slices.Insert(b.Nodes, i+1, good)
			checkNoTree(t, b)
		}
		all := tree.Nodes
		for _, nodes := range [][]impl.Leaf{nil, {}, all[:len(all)-1], all[1:], append(all[:len(all):len(all)], impl.Leaf{}), slices.Repeat(all, 2), slices.Repeat(all, 100)} {
			checkNoTree(t, impl.HullTree{Points: s, Nodes: nodes})
		}
	}
}

// The points of a good tree are changed in one thing.
func TestPromise7WrongPoints(t *testing.T) {
	m := impl.MaxXY
	for _, n := range []int{1, 2, 3, 5, 17, impl.MaxPoints} {
		tree, _ := impl.BuildTree(bowl(n))
		for i := range n {
			for _, p := range []impl.Point{{X: m + 1}, {X: -m - 1}, {Y: m + 1}, {X: i - n/2, Y: -m - 1}, {X: math.MinInt, Y: math.MaxInt}} {
				b := cloneTree(tree)
				b.Points[i] = p
				checkNoTree(t, b)
			}
			if i > 0 {
				b := cloneTree(tree)
				b.Points[i-1] = b.Points[i]
				checkNoTree(t, b)
				b.Points[i-1], b.Points[i] = tree.Points[i], tree.Points[i-1]
				checkNoTree(t, b)
			}
			b := cloneTree(tree)
			b.Points = slices.Delete(b.Points, i, i+1)
			checkNoTree(t, b)
			b = cloneTree(tree)
			b.Points = slices.Insert(b.Points, i, impl.Point{X: b.Points[i].X, Y: b.Points[i].Y - 1})
			checkNoTree(t, b)
		}
		// The same order of points, but other bridges: all of them in one line.
		if b := cloneTree(tree); n > 2 {
			copy(b.Points, rightward(n, 0))
			checkNoTree(t, b)
		}
		// Other points with the same bridges make a good tree, too.
		b := cloneTree(tree)
		copy(b.Points, bent(n, 500, n/2, -7))
		if want := modelGoodTree(b); !want || impl.GoodTree(b) != want {
			t.Error("GoodTree of points that lie elsewhere", b)
		}
	}
}

func TestPromise7NoSuchNodes(t *testing.T) {
	for _, s := range [][]impl.Point{bowl(1), bowl(2), bowl(3), grid(3), bowl(impl.MaxPoints)} {
		tree, _ := impl.BuildTree(s)
		for _, node := range []int{-1, len(tree.Nodes), len(tree.Nodes) + 1, math.MinInt, math.MaxInt} {
			if l, ok := impl.LowerAt(tree, node); len(l) != 0 || ok {
				t.Error("LowerAt", s, node, l, ok)
			}
		}
		for _, k := range []int{-1, len(s), len(s) + 1, len(tree.Nodes) + 1, math.MinInt, math.MaxInt} {
			if l, ok := impl.PathTo(tree, k); len(l) != 0 || ok {
				t.Error("PathTo", s, k, l, ok)
			}
		}
	}
	// A node that no number of a point is, and the other way round.
	tree, _ := impl.BuildTree(bowl(3))
	if l, ok := impl.LowerAt(tree, 4); !ok || !slices.Equal(l, bowl(3)[2:]) {
		t.Error("LowerAt the last node", l, ok)
	}
	if l, ok := impl.PathTo(tree, 2); !ok || !slices.Equal(l, []int{0, 2, 4}) {
		t.Error("PathTo the last point", l, ok)
	}
}

func TestPromise7Rebuilds(t *testing.T) {
	m := impl.MaxXY
	for _, n := range []int{1, 2, 3, 4, 7, 31, impl.MaxPoints - 2, impl.MaxPoints - 1, impl.MaxPoints} {
		// Every other number is free.
		s := line(n, 0, 0, impl.Point{X: 2})
		tree := checkWholeTree(t, s)
		for x := -1; x < 2*n; x++ {
			for _, y := range []int{-5, 0, 5} {
				checkRebuilt(t, tree, impl.Point{X: x, Y: y})
			}
		}
		for _, p := range []impl.Point{{X: m, Y: m}, {X: -m, Y: m}, {X: m + 1}, {X: -m - 1}, {Y: m + 1}, {Y: -m - 1}, {X: math.MaxInt, Y: math.MinInt}} {
			checkRebuilt(t, tree, p)
		}
		now, path, ok := impl.RebuildWith(tree, impl.Point{X: 2*n - 1, Y: -9})
		if ok != (n < impl.MaxPoints) || ok && (len(now.Points) != n+1 || len(path) == 0) || !ok && len(now.Points)+len(now.Nodes)+len(path) > 0 {
			t.Error("RebuildWith where there is room, and where not", n, now, path, ok)
		}
	}
	tree, _ := impl.BuildTree(rowList(1, 2))
	for _, c := range []struct {
		p    impl.Point
		path []int
		ok   bool
	}{
		{impl.Point{X: 0}, []int{0, 1}, true}, {impl.Point{X: 1, Y: 5}, []int{0, 2, 3}, true}, {impl.Point{X: 2, Y: -1}, []int{0, 2, 3}, true},
		{impl.Point{X: 2, Y: 1}, []int{0, 2, 4}, true}, {impl.Point{X: 3}, []int{0, 2, 4}, true}, {impl.Point{X: 1}, nil, false}, {impl.Point{X: 2}, nil, false},
	} {
		if now, path, ok := impl.RebuildWith(tree, c.p); ok != c.ok || !slices.Equal(path, c.path) || ok && !slices.Contains(now.Points, c.p) || !ok && len(now.Points)+len(now.Nodes) > 0 {
			t.Error("RebuildWith", c.p, now, path, ok)
		}
	}
}

// A tree that points are put to one by one is the tree of all of them, in whatever order they come.
func TestPromise7PutOneByOne(t *testing.T) {
	n := numbers{state: 73}
	for _, all := range fullSets(24) {
		for i := range all {
			k := int(n.word() % uint64(i+1))
			all[i], all[k] = all[k], all[i]
		}
		tree, _ := impl.BuildTree(all[:1])
		for _, p := range all[1:] {
			now, path, ok := impl.RebuildWith(tree, p)
			if !ok || now.Nodes[path[len(path)-1]].To-now.Nodes[path[len(path)-1]].From != 1 || now.Points[now.Nodes[path[len(path)-1]].From] != p {
				t.Fatal("RebuildWith", tree, p, now, path, ok)
			}
			tree = now
		}
		if want, ok := impl.BuildTree(ordered(all)); !ok || !sameTree(tree, want) {
			t.Fatal("not the tree of all points", all, tree)
		}
	}
}
