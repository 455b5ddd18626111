package tests

import (
	"math"
	"math/bits"
	"slices"
	"testing"

	"loop.example/g00780/impl"
)

func leaf(x int) impl.Node {
	return impl.Node{Size: 1, High: 1, At: impl.Point{X: x}}
}

// over has a node of the row of points 1, 0 and 2, 0 and so on.
func over(left, right, size, high, x int) impl.Node {
	return impl.Node{Left: left, Right: right, Size: size, High: high, At: impl.Point{X: x}}
}

// rowList has the points from, 0 up to to, 0.
func rowList(from, to int) []impl.Point {
	return rightward(to-from+1, from)
}

func TestPromise6Builds(t *testing.T) {
	m := impl.MaxXY
	for n := range impl.MaxPoints + 1 {
		// In no order, and some more than once.
		l := line(n, m, -m, impl.Point{X: -3, Y: 7})
		copy(l, rightward(n/3, 0))
		copy(l[n/2:], l[:n/4])
		for _, before := range []int{0, 1, 7, impl.MaxNodes - n} {
			a := leaves(before)
			b, root, ok := impl.BuildChain(a, l)
			want, wantRoot, is := modelBuild(a, l)
			if !ok || !is || root != wantRoot || !slices.Equal(b.Nodes, want.Nodes) || nodeAt(b, root).High != bitsOf(n) {
				t.Fatal("BuildChain", a, l, b, root, ok)
			}
			checkTold(t, b, root, l)
			checkOldRoots(t, a, b)
		}
		a := leaves(impl.MaxNodes + 1 - n)
		if b, root, ok := impl.BuildChain(a, l); len(b.Nodes) != 0 || root != 0 || ok {
			t.Fatal("BuildChain with no room", n, b, root, ok)
		}
	}
}

// Each name counts what is made, in the order in which it is made.
func TestPromise6NamedBuilds(t *testing.T) {
	row := rowList(1, 6)
	for _, c := range []struct {
		n    int
		root int
		want []impl.Node
	}{
		{0, 0, nil},
		{1, 1, []impl.Node{leaf(1)}},
		{2, 2, []impl.Node{leaf(1), over(1, 0, 2, 2, 2)}},
		{3, 3, []impl.Node{leaf(1), leaf(3), over(1, 2, 3, 2, 2)}},
		{4, 4, []impl.Node{leaf(1), over(1, 0, 2, 2, 2), leaf(4), over(2, 3, 4, 3, 3)}},
		{6, 6, []impl.Node{leaf(1), leaf(3), over(1, 2, 3, 2, 2), leaf(5), over(4, 0, 2, 2, 6), over(3, 5, 6, 3, 4)}},
	} {
		b, root, ok := impl.BuildChain(impl.Pool{}, row[:c.n])
		if !ok || root != c.root || !slices.Equal(b.Nodes, c.want) {
			t.Error("BuildChain", c.n, b, root, ok)
		}
	}
	// Behind nodes that are there the numbers go on.
	b, root, ok := impl.BuildChain(leaves(2), row[:3])
	want := append(leaves(2).Nodes, leaf(1), leaf(3), over(3, 4, 3, 2, 2))
	if !ok || root != 5 || !slices.Equal(b.Nodes, want) {
		t.Error("BuildChain behind others", b, root, ok)
	}
}

func TestPromise6NoBuilds(t *testing.T) {
	m := impl.MaxXY
	for _, l := range [][]impl.Point{
		rowList(1, impl.MaxPoints+1), rowList(1, 1000), slices.Repeat([]impl.Point{{}}, impl.MaxPoints+1),
		{{X: m + 1}}, {{Y: -m - 1}}, append(rowList(1, 59), impl.Point{X: math.MinInt}), append([]impl.Point{{Y: math.MaxInt}}, rowList(1, 5)...),
	} {
		if b, root, ok := impl.BuildChain(leaves(3), l); len(b.Nodes) != 0 || root != 0 || ok {
			t.Error("BuildChain", l, b, root, ok)
		}
	}
}

// Turns are told by the nodes that are made, in their order: single and double ones, to either side.
func TestPromise6NamedTurnsOfJoins(t *testing.T) {
	rightHeavy := []impl.Node{leaf(1), leaf(3), leaf(5), over(2, 3, 3, 2, 4), over(1, 4, 5, 3, 2)}
	for _, c := range []struct {
		name       string
		nodes      []impl.Node
		x, y, root int
		made       []impl.Node
	}{
		{"no turn", leaves(2).Nodes, 1, 2, 4, []impl.Node{
			leaves(2).Nodes[1],
			{Left: 1, Size: 2, High: 2, At: impl.Point{X: 1, Y: 1}}}},
		{"single, behind 5, the right one higher", append(slices.Clone(rightHeavy), leaf(6)), 5, 6, 11, []impl.Node{
			leaf(6),               // 7: the first one of the second, which is not used
			over(3, 0, 2, 2, 6),   // 8: laid down behind 5
			over(2, 8, 4, 3, 4),   // 9: balanced
			over(1, 2, 3, 2, 2),   // 10: 2 goes down,
			over(10, 8, 6, 3, 4)}, // 11: 4 up
		},
		{"double, with nothing below", []impl.Node{leaf(2), over(0, 1, 2, 2, 1), leaf(3)}, 2, 3, 8, []impl.Node{
			leaf(3),             // 4
			over(1, 0, 2, 2, 3), // 5: too high on its left
			leaf(1), leaf(3),    // 6, 7: the left one first
			over(6, 7, 3, 2, 2)}, // 8
		},
		{"double, with nodes below", append(slices.Clone(rightHeavy), leaf(6), over(6, 0, 2, 2, 7)), 5, 7, 13, []impl.Node{
			leaf(6), leaf(7), // 8, 9: the second one is split
			over(4, 9, 5, 3, 6),    // 10: laid down, too high on its left
			over(1, 2, 3, 2, 2),    // 11
			over(3, 9, 3, 2, 6),    // 12
			over(11, 12, 7, 3, 4)}, // 13
		},
	} {
		a := impl.Pool{Nodes: c.nodes}
		b, root, ok := impl.JoinChains(a, c.x, c.y)
		if !ok || root != c.root || !slices.Equal(b.Nodes, slices.Concat(c.nodes, c.made)) {
			t.Error(c.name, b, root, ok)
		}
		checkJoin(t, a, c.x, c.y)
	}
}

func TestPromise6NamedTurnsOfSplits(t *testing.T) {
	for _, c := range []struct {
		name                    string
		nodes                   []impl.Node
		root, many, front, rest int
		made                    []impl.Node
	}{
		{"no turn", []impl.Node{leaf(1), leaf(3), over(1, 2, 3, 2, 2)}, 3, 1, 4, 5, []impl.Node{leaf(1), over(0, 2, 2, 2, 2)}},
		{"single, ahead of 4, the left one higher",
			[]impl.Node{leaf(1), over(1, 0, 2, 2, 2), leaf(4), leaf(6), over(3, 4, 3, 2, 5), leaf(8), over(5, 6, 5, 3, 7), over(2, 7, 8, 4, 3)},
			8, 2, 9, 13, []impl.Node{
				over(1, 0, 2, 2, 2),    // 9
				over(0, 3, 2, 2, 3),    // 10: laid down ahead of 4
				over(10, 4, 4, 3, 5),   // 11: balanced
				over(4, 6, 3, 2, 7),    // 12: 7 goes down,
				over(10, 12, 6, 3, 5)}, // 13: 5 up
		},
		{"double, with nothing below", []impl.Node{leaf(1), leaf(3), over(2, 0, 2, 2, 4), over(1, 3, 4, 3, 2)}, 4, 1, 5, 9, []impl.Node{
			leaf(1),             // 5
			over(0, 2, 2, 2, 2), // 6: too high on its right
			leaf(2), leaf(4),    // 7, 8: the left one first
			over(7, 8, 3, 2, 3)}, // 9
		},
		{"double, with nodes below",
			[]impl.Node{leaf(1), leaf(3), over(1, 2, 3, 2, 2), leaf(5), leaf(7), over(4, 5, 3, 2, 6), leaf(9), over(6, 7, 5, 3, 8), over(3, 8, 9, 4, 4)},
			9, 2, 11, 15, []impl.Node{
				leaf(3), over(1, 0, 2, 2, 2), // 10, 11
				over(10, 6, 5, 3, 4),   // 12: laid down, too high on its right
				over(10, 4, 3, 2, 4),   // 13
				over(5, 7, 3, 2, 8),    // 14
				over(13, 14, 7, 3, 6)}, // 15
		},
	} {
		a := impl.Pool{Nodes: c.nodes}
		b, front, rest, ok := impl.SplitChain(a, c.root, c.many)
		if !ok || front != c.front || rest != c.rest || !slices.Equal(b.Nodes, slices.Concat(c.nodes, c.made)) {
			t.Error(c.name, b, front, rest, ok)
		}
		checkSplit(t, a, c.root, c.many)
	}
}

// All built chains are cut everywhere, and both parts laid behind one another again, in either order.
func TestPromise6CutEverywhere(t *testing.T) {
	for n := range 41 {
		l := line(n, 5, 5, impl.Point{X: -1, Y: n})
		a, root, _ := impl.BuildChain(impl.Pool{}, l)
		for many := range n + 1 {
			checkSplit(t, a, root, many)
			b, front, rest, ok := impl.SplitChain(a, root, many)
			if !ok {
				t.Fatal("SplitChain", n, many)
			}
			checkJoin(t, b, front, rest)
			checkJoin(t, b, rest, front)
		}
		for _, many := range []int{-1, n + 1, math.MinInt, math.MaxInt} {
			if b, front, rest, ok := impl.SplitChain(a, root, many); len(b.Nodes) != 0 || front != 0 || rest != 0 || ok {
				t.Fatal("SplitChain beyond the list", n, many, b, front, rest, ok)
			}
		}
	}
	// With MaxPoints points: none, one, as many as are on the left, one more, all but one and all.
	a, root, _ := impl.BuildChain(impl.Pool{}, rowList(1, impl.MaxPoints))
	ahead := nodeAt(a, nodeAt(a, root).Left).Size
	for _, many := range []int{0, 1, ahead - 1, ahead, ahead + 1, ahead + 2, impl.MaxPoints - 1, impl.MaxPoints} {
		checkSplit(t, a, root, many)
	}
}

func TestPromise6ShapesCutEverywhere(t *testing.T) {
	n := numbers{state: 60}
	for high := range 8 {
		for _, s := range []shape{leanLeft, leanRight, fullShape, someShape(&n), someShape(&n), someShape(&n)} {
			var a impl.Pool
			next := 0
			root := grow(&a, s, min(high, 6), &next)
			for many := range nodeAt(a, root).Size + 1 {
				checkSplit(t, a, root, many)
			}
		}
	}
}

// allShapes puts one tree of each shape of so many levels behind a pool, and tells their roots. The trees share what they have in common.
func allShapes(a *impl.Pool, high int, made map[int][]int) []int {
	if high <= 0 {
		return []int{0}
	}
	if made[high] != nil {
		return made[high]
	}
	for _, s := range []shape{fullShape, leanLeft, leanRight} {
		l, r := s(high)
		if l < 0 || r < 0 {
			continue
		}
		for _, left := range allShapes(a, l, made) {
			for _, right := range allShapes(a, r, made) {
				made[high] = append(made[high], bring(a, left, impl.Point{X: len(a.Nodes), Y: high}, right))
			}
		}
	}
	return made[high]
}

// All trees of at most three levels laid behind one another, and each of them twice; below them all others are shared.
func TestPromise6AllShapesJoined(t *testing.T) {
	var a impl.Pool
	made := map[int][]int{}
	allShapes(&a, 3, made)
	if len(made[3]) != 15 || len(a.Nodes) != 19 {
		t.Fatal("shapes", made)
	}
	for x := range len(a.Nodes) + 1 {
		for y := range len(a.Nodes) + 1 {
			checkJoin(t, a, x, y)
		}
		for many := range nodeAt(a, x).Size + 1 {
			checkSplit(t, a, x, many)
		}
	}
}

// Each tree of four levels stands alone with a few of less.
func TestPromise6AllFourLevels(t *testing.T) {
	var small impl.Pool
	made := map[int][]int{}
	allShapes(&small, 3, made)
	trees := 0
	for _, s := range []shape{fullShape, leanLeft, leanRight} {
		l, r := s(4)
		for _, left := range made[l] {
			for _, right := range made[r] {
				a := impl.Pool{Nodes: slices.Clone(small.Nodes)}
				root := bring(&a, left, impl.Point{X: 7, Y: 4}, right)
				trees++
				for _, other := range []int{0, made[1][0], made[2][1], made[3][trees%15]} {
					checkJoin(t, a, root, other)
					checkJoin(t, a, other, root)
				}
				checkSplit(t, a, root, trees%(nodeAt(a, root).Size+1))
			}
		}
	}
	if trees != 315 {
		t.Fatal("trees", trees)
	}
}

// Chains of very unlike height, on either side, leaning to either side.
func TestPromise6UnlikeHeights(t *testing.T) {
	n := numbers{state: 61}
	for _, c := range []struct {
		s    shape
		high int
	}{
		{leanLeft, 4}, {leanRight, 4}, {leanLeft, 7}, {leanRight, 7}, {leanLeft, 9}, {leanRight, 9}, {leanLeft, 10}, {leanRight, 10},
		{fullShape, 5}, {fullShape, 6}, {fullShape, 7}, {someShape(&n), 5}, {someShape(&n), 6}, {someShape(&n), 6},
	} {
		for _, low := range []int{0, 1, 2, 3, 4} {
			for _, other := range []shape{leanLeft, leanRight, fullShape} {
				var a impl.Pool
				next := 0
				x := grow(&a, c.s, c.high, &next)
				y := grow(&a, other, low, &next)
				if nodeAt(a, x).High != c.high || nodeAt(a, y).High != low {
					t.Fatal("heights", c.high, low)
				}
				checkJoin(t, a, x, y)
				checkJoin(t, a, y, x)
			}
		}
	}
}

func TestPromise6NamedJoins(t *testing.T) {
	a, root, _ := impl.BuildChain(leaves(1), rowList(1, 6))
	for _, c := range []struct{ x, y, root int }{{0, 0, 0}, {0, root, root}, {root, 0, root}, {1, 0, 1}, {0, 1, 1}, {0, 3, 3}, {4, 0, 4}} {
		if b, got, ok := impl.JoinChains(a, c.x, c.y); !ok || got != c.root || !slices.Equal(b.Nodes, a.Nodes) {
			t.Error("JoinChains with 0", c, b, got, ok)
		}
	}
	// One root twice: the list stands there twice.
	b, twice, ok := impl.JoinChains(a, root, root)
	if !ok {
		t.Fatal("JoinChains with one root twice")
	}
	checkTold(t, b, twice, append(rowList(1, 6), rowList(1, 6)...))
	checkOldRoots(t, a, b)
	// Points behind less ones, and ahead of them.
	checkJoin(t, a, root, 1)
	checkJoin(t, a, 1, root)
	for _, k := range []int{-1, len(a.Nodes) + 1, math.MinInt, math.MaxInt} {
		for _, good := range []int{0, 1, root, k} {
			for _, pair := range [][2]int{{k, good}, {good, k}} {
				if b, got, ok := impl.JoinChains(a, pair[0], pair[1]); len(b.Nodes) != 0 || got != 0 || ok {
					t.Error("JoinChains of no root", pair, b, got, ok)
				}
			}
		}
	}
}

// A list that has more than MaxPoints points is not told as one, but it is there.
func TestPromise6LongerThanMaxPoints(t *testing.T) {
	a, x, _ := impl.BuildChain(impl.Pool{}, rowList(1, impl.MaxPoints))
	a, y, _ := impl.BuildChain(a, rowList(100, 100))
	if l, ok := impl.ListOf(a, x); !ok || !slices.Equal(l, rowList(1, impl.MaxPoints)) {
		t.Error("ListOf of MaxPoints points", l, ok)
	}
	b, root, ok := impl.JoinChains(a, x, y)
	if !ok || nodeAt(b, root).Size != impl.MaxPoints+1 {
		t.Fatal("JoinChains", b, root, ok)
	}
	if l, ok := impl.ListOf(b, root); len(l) != 0 || ok {
		t.Error("ListOf of one more than MaxPoints points", l, ok)
	}
	checkTold(t, b, root, append(rowList(1, impl.MaxPoints), impl.Point{X: 100}))
	if k, ok := impl.FirstWhere(b, root, impl.Point{X: 1}, 60); k != 60 || !ok {
		t.Error("FirstWhere behind MaxPoints points", k, ok)
	}
	// Cut again, it can be told.
	c, front, rest, ok := impl.SplitChain(b, root, impl.MaxPoints)
	if !ok {
		t.Fatal("SplitChain")
	}
	checkTold(t, c, front, rowList(1, impl.MaxPoints))
	checkTold(t, c, rest, rowList(100, 100))
	checkOldRoots(t, b, c)
}

// fill puts single nodes behind a pool, so many that it has room for just that many more.
func fill(a impl.Pool, room int) impl.Pool {
	return impl.Pool{Nodes: append(slices.Clone(a.Nodes), leaves(impl.MaxNodes-room-len(a.Nodes)).Nodes...)}
}

func TestPromise6JustFull(t *testing.T) {
	n := numbers{state: 62}
	for _, s := range []shape{leanLeft, leanRight, fullShape, someShape(&n)} {
		for high := 1; high <= 5; high++ {
			var a impl.Pool
			next := 0
			x, y := grow(&a, s, high, &next), grow(&a, leanLeft, 3, &next)
			many := int(n.word() % uint64(nodeAt(a, x).Size+1))
			joined, _, _ := modelJoin6(a, x, y)
			cut, _, _, _ := modelSplit(a, x, many)
			room := len(joined.Nodes) - len(a.Nodes)
			full, over := fill(a, room), fill(a, room-1)
			b, root, ok := impl.JoinChains(full, x, y)
			if !ok || len(b.Nodes) != impl.MaxNodes || root == 0 {
				t.Fatal("JoinChains that just fills the pool", full, x, y, b, root, ok)
			}
			checkJoin(t, full, x, y)
			if b, root, ok := impl.JoinChains(over, x, y); len(b.Nodes) != 0 || root != 0 || ok {
				t.Fatal("JoinChains with one node too many", over, x, y, b, root, ok)
			}
			room = len(cut.Nodes) - len(a.Nodes)
			full, over = fill(a, room), fill(a, room-1)
			b, _, _, ok = impl.SplitChain(full, x, many)
			if !ok || len(b.Nodes) != impl.MaxNodes {
				t.Fatal("SplitChain that just fills the pool", full, x, many, b, ok)
			}
			checkSplit(t, full, x, many)
			if b, front, rest, ok := impl.SplitChain(over, x, many); len(b.Nodes) != 0 || front != 0 || rest != 0 || ok {
				t.Fatal("SplitChain with one node too many", over, x, many, b, front, rest, ok)
			}
		}
	}
}

func TestPromise6FullPools(t *testing.T) {
	a := leaves(impl.MaxNodes)
	if !impl.GoodPool(a) || !impl.GoodRoot(a, impl.MaxNodes) || impl.GoodRoot(a, impl.MaxNodes+1) {
		t.Fatal("a pool of MaxNodes nodes")
	}
	// What makes no node finds room.
	if b, root, ok := impl.BuildChain(a, nil); !ok || root != 0 || !slices.Equal(b.Nodes, a.Nodes) {
		t.Error("BuildChain of none", root, ok)
	}
	if b, root, ok := impl.JoinChains(a, 0, impl.MaxNodes); !ok || root != impl.MaxNodes || !slices.Equal(b.Nodes, a.Nodes) {
		t.Error("JoinChains with 0", root, ok)
	}
	if b, x, y, ok := impl.SplitChain(a, 0, 0); !ok || x != 0 || y != 0 || !slices.Equal(b.Nodes, a.Nodes) {
		t.Error("SplitChain of 0", x, y, ok)
	}
	if b, root, ok := impl.BuildChain(a, rowList(1, 1)); len(b.Nodes) != 0 || root != 0 || ok {
		t.Error("BuildChain of one", b, root, ok)
	}
	if b, root, ok := impl.JoinChains(a, 1, 2); len(b.Nodes) != 0 || root != 0 || ok {
		t.Error("JoinChains", b, root, ok)
	}
	for _, many := range []int{0, 1} {
		if b, x, y, ok := impl.SplitChain(a, 1, many); len(b.Nodes) != 0 || x != 0 || y != 0 || ok {
			t.Error("SplitChain", many, b, x, y, ok)
		}
	}
	if impl.GoodPool(leaves(impl.MaxNodes+1)) || impl.GoodRoot(leaves(impl.MaxNodes+1), 1) {
		t.Error("a pool of more than MaxNodes nodes")
	}
	if !impl.GoodPool(impl.Pool{}) || !impl.GoodRoot(impl.Pool{}, 0) || impl.GoodRoot(impl.Pool{}, 1) || impl.GoodRoot(impl.Pool{}, -1) {
		t.Error("a pool of no nodes")
	}
	if l, ok := impl.ListOf(impl.Pool{}, 0); len(l) != 0 || !ok {
		t.Error("the list of 0", l, ok)
	}
}

// kept is a root and the list that it was made for.
type kept struct {
	root int
	list []impl.Point
}

// Whatever is done, all roots of before keep their lists.
func TestPromise6OldRootsStay(t *testing.T) {
	n := numbers{state: 63}
	for range 150 {
		var a impl.Pool
		all := []kept{{0, nil}}
		some := func() kept { return all[n.word()%uint64(len(all))] }
		for range 12 {
			var b impl.Pool
			var ok bool
			var news []kept
			switch x, y := some(), some(); n.word() % 3 {
			case 0:
				var l []impl.Point
				for range n.word() % 20 {
					l = append(l, n.point(9))
				}
				b, y.root, ok = impl.BuildChain(a, l)
				news = []kept{{y.root, l}}
			case 1:
				checkJoin(t, a, x.root, y.root)
				l := slices.Concat(x.list, y.list)
				b, x.root, ok = impl.JoinChains(a, x.root, y.root)
				news = []kept{{x.root, l}}
			case 2:
				many := int(n.word() % uint64(len(x.list)+1))
				checkSplit(t, a, x.root, many)
				b, x.root, y.root, ok = impl.SplitChain(a, x.root, many)
				news = []kept{{x.root, x.list[:many]}, {y.root, x.list[many:]}}
			}
			if !ok {
				continue
			}
			checkOldRoots(t, a, b)
			a, all = b, append(all, news...)
			for _, k := range all {
				checkTold(t, a, k.root, k.list)
			}
		}
	}
}

func TestPromise6NamedIndexes(t *testing.T) {
	a, root, _ := impl.BuildChain(leaves(2), rowList(1, 5))
	for k, want := range rowList(1, 5) {
		if p, ok := impl.IndexIn(a, root, k); p != want || !ok {
			t.Error("IndexIn", k, p, ok)
		}
	}
	for _, c := range []struct{ root, k int }{
		{root, 5}, {root, 6}, {root, -1}, {root, math.MaxInt}, {root, math.MinInt}, {0, 0}, {0, -1}, {1, 1}, {-1, 0}, {root + 1, 0}, {math.MaxInt, 0}, {math.MinInt, 0},
	} {
		if p, ok := impl.IndexIn(a, c.root, c.k); p != (impl.Point{}) || ok {
			t.Error("IndexIn beyond", c, p, ok)
		}
	}
	if p, ok := impl.IndexIn(a, 2, 0); p != (impl.Point{X: 1, Y: 1}) || !ok {
		t.Error("IndexIn of one", p, ok)
	}
}

func TestPromise6NamedFirstWheres(t *testing.T) {
	m := impl.MaxXY
	rise := []impl.Point{{X: -m, Y: m}, {X: -3, Y: 9}, {X: 2, Y: 0}, {X: 2, Y: -8}, {X: 2, Y: 5}, {X: 7, Y: 1}, {X: 7, Y: 2}, {X: m, Y: -m}}
	d := impl.Point{X: 1}
	for _, c := range []struct {
		l    []impl.Point
		d    impl.Point
		most int
		k    int
		ok   bool
	}{
		// Below all, between, at those that are alike, at the greatest and above it.
		{rise, d, -m - 1, 0, true}, {rise, d, math.MinInt, 0, true}, {rise, d, -m, 1, true}, {rise, d, -4, 1, true}, {rise, d, -3, 2, true}, {rise, d, 1, 2, true},
		{rise, d, 2, 5, true}, {rise, d, 3, 5, true}, {rise, d, 6, 5, true}, {rise, d, 7, 7, true}, {rise, d, m - 1, 7, true}, {rise, d, m, 0, false}, {rise, d, m + 1, 0, false}, {rise, d, math.MaxInt, 0, false},
		// As far as can be, and across.
		{rise, impl.Point{X: m}, m*m - 1, 7, true}, {rise, impl.Point{X: m, Y: -m}, 0, 0, false}, {rise[:1], impl.Point{X: m, Y: -m}, -2*m*m - 1, 0, true}, {rise[:1], impl.Point{X: m, Y: -m}, -2 * m * m, 0, false},
		{rise[7:], impl.Point{X: m, Y: -m}, 2*m*m - 1, 0, true}, {rise[7:], impl.Point{X: m, Y: -m}, 2 * m * m, 0, false}, {[]impl.Point{rise[0], {}, rise[7]}, impl.Point{X: m, Y: -m}, -1, 1, true},
		// No direction: all are alike.
		{rise, impl.Point{}, -1, 0, true}, {rise, impl.Point{}, 0, 0, false}, {rise, impl.Point{}, 1, 0, false}, {nil, impl.Point{}, -1, 0, false},
		// The list falls once: at its beginning, in the middle, at its end; the answer would lie ahead of that or behind it.
		{rise, impl.Point{Y: 1}, -m - 1, 0, false}, {[]impl.Point{{X: 2}, {X: 1}, {X: 3}, {X: 4}}, d, 1, 0, false}, {[]impl.Point{{X: 1}, {X: 3}, {X: 2}, {X: 4}}, d, 0, 0, false},
		{[]impl.Point{{X: 1}, {X: 2}, {X: 4}, {X: 3}}, d, 1, 0, false}, {[]impl.Point{{X: 1}, {X: 2}, {X: 4}, {X: 3}}, d, 9, 0, false}, {[]impl.Point{{X: 2}, {X: 1}}, d, 2, 0, false}, {[]impl.Point{{X: 2}, {X: 1}}, d, 0, 0, false},
		{[]impl.Point{{X: 2}, {X: 1}}, impl.Point{X: -1}, -2, 1, true}, {[]impl.Point{{X: 2}, {X: 1}}, impl.Point{X: 1, Y: 1}, 0, 0, false},
		// Few points, all alike, as many as can be told.
		{nil, d, math.MinInt, 0, false}, {rise[2:3], d, 1, 0, true}, {rise[2:3], d, 2, 0, false}, {rise[2:5], d, 1, 0, true}, {rise[2:5], d, 2, 0, false},
		{rowList(1, 60), d, 59, 59, true}, {rowList(1, 60), d, 60, 0, false}, {rowList(1, 60), d, 0, 0, true}, {rowList(1, 60), impl.Point{X: -1}, -100, 0, false}, {rowList(1, 60), impl.Point{X: 2, Y: 5}, 62, 31, true},
		// Directions that are not good.
		{rise, impl.Point{X: m + 1}, 0, 0, false}, {rise, impl.Point{Y: -m - 1}, -1, 0, false}, {rise, impl.Point{X: math.MaxInt, Y: math.MinInt}, 0, 0, false}, {nil, impl.Point{X: m + 1}, 0, 0, false},
	} {
		a, root, _ := impl.BuildChain(leaves(1), c.l)
		if k, ok := impl.FirstWhere(a, root, c.d, c.most); k != c.k || ok != c.ok {
			t.Error("FirstWhere", c.l, c.d, c.most, k, ok)
		}
		for _, no := range []int{-1, len(a.Nodes) + 1, math.MinInt, math.MaxInt} {
			if k, ok := impl.FirstWhere(a, no, c.d, c.most); k != 0 || ok {
				t.Error("FirstWhere of no root", no, k, ok)
			}
		}
	}
}

// A list falls once, wherever that is in the tree, and in nodes that are not of the chain it may fall.
func TestPromise6FallsAnywhere(t *testing.T) {
	n := numbers{state: 64}
	for _, s := range []shape{leanLeft, leanRight, fullShape, someShape(&n)} {
		var a impl.Pool
		next := 0
		grow(&a, s, 3, &next)
		next = 0
		root := grow(&a, s, 5, &next)
		size := nodeAt(a, root).Size
		for most := -2; most <= size; most++ {
			k, ok := impl.FirstWhere(a, root, impl.Point{X: 1}, most)
			if want, is := modelFirst(a, root, impl.Point{X: 1}, most); k != want || ok != is {
				t.Fatal("FirstWhere", a, root, most, k, ok)
			}
		}
		for i := range a.Nodes {
			for _, by := range []int{-2, 2} {
				b := impl.Pool{Nodes: slices.Clone(a.Nodes)}
				b.Nodes[i].At.X += by
				for _, most := range []int{-9, size / 2, size} {
					k, ok := impl.FirstWhere(b, root, impl.Point{X: 1}, most)
					if want, is := modelFirst(b, root, impl.Point{X: 1}, most); k != want || ok != is {
						t.Fatal("FirstWhere", b, root, most, k, ok)
					}
				}
			}
		}
	}
}

// Nodes that are shared make chains that are longer than anything that is gone through: 63 levels have as many points as an int can tell.
func TestPromise6LongestChains(t *testing.T) {
	levels := func(k int) impl.Point { return impl.Point{X: k, Y: 5} }
	a := doubled(63, levels)
	if nodeAt(a, 63).Size != math.MaxInt || !impl.GoodPool(a) || !impl.GoodRoot(a, 63) {
		t.Fatal("63 levels")
	}
	if impl.GoodPool(doubled(64, levels)) {
		t.Error("64 levels: no int tells the size")
	}
	b := doubled(63, levels)
	b.Nodes = append(b.Nodes, impl.Node{Left: 63, Right: 62, Size: math.MinInt + 1<<62 - 1, High: 64})
	if impl.GoodPool(b) {
		t.Error("a size that no int tells")
	}
	for _, k := range []int{0, 1, 2, 5, 1 << 40, 1<<62 - 2, 1<<62 - 1, 1 << 62, math.MaxInt - 1} {
		if p, ok := impl.IndexIn(a, 63, k); p != levels(bits.TrailingZeros(uint(k+1))+1) || !ok {
			t.Error("IndexIn", k, p, ok)
		}
	}
	if p, ok := impl.IndexIn(a, 63, math.MaxInt); p != (impl.Point{}) || ok {
		t.Error("IndexIn behind the last one", p, ok)
	}
	if l, ok := impl.ListOf(a, 63); len(l) != 0 || ok {
		t.Error("ListOf", l, ok)
	}
	for _, c := range []struct {
		d    impl.Point
		most int
		k    int
		ok   bool
	}{{impl.Point{Y: 1}, 4, 0, true}, {impl.Point{Y: 1}, 5, 0, false}, {impl.Point{X: 1}, 0, 0, false}, {impl.Point{}, -1, 0, true}, {impl.Point{}, 0, 0, false}} {
		if k, ok := impl.FirstWhere(a, 63, c.d, c.most); k != c.k || ok != c.ok {
			t.Error("FirstWhere", c, k, ok)
		}
	}
	// What no int tells is not joined, what one just tells is, where there is room.
	for _, c := range []struct {
		x, y int
		ok   bool
	}{{63, 1, false}, {1, 63, false}, {63, 63, false}, {62, 63, false}, {0, 63, true}, {63, 0, true}, {62, 62, true}, {1, 62, true}} {
		got, root, ok := impl.JoinChains(a, c.x, c.y)
		want, wantRoot, is := modelJoin6(a, c.x, c.y)
		if is != c.ok || ok != is || root != wantRoot || !slices.Equal(got.Nodes, want.Nodes) {
			t.Error("JoinChains", c, root, ok, is)
		}
	}
}

// Long chains of which the one lies behind the other, cut again far from their ends.
func TestPromise6LongChainsCut(t *testing.T) {
	a := doubled(20, func(k int) impl.Point { return impl.Point{X: 1, Y: k} })
	second := doubled(20, func(k int) impl.Point { return impl.Point{X: 2, Y: k} })
	for k, n := range second.Nodes {
		a.Nodes = append(a.Nodes, impl.Node{Left: min(n.Left, 1) * (20 + k), Right: min(n.Right, 1) * (20 + k), Size: n.Size, High: n.High, At: n.At})
	}
	size := 1<<20 - 1
	b, root, ok := impl.JoinChains(a, 20, 40)
	if !ok || nodeAt(b, root).Size != 2*size || !impl.GoodPool(b) {
		t.Fatal("JoinChains", b, root, ok)
	}
	if k, ok := impl.FirstWhere(b, root, impl.Point{X: 1}, 1); k != size || !ok {
		t.Error("FirstWhere", k, ok)
	}
	c, front, rest, ok := impl.SplitChain(b, root, size-2)
	if !ok || nodeAt(c, front).Size != size-2 || nodeAt(c, rest).Size != size+2 || !impl.GoodPool(c) || !slices.Equal(c.Nodes[:len(b.Nodes)], b.Nodes) {
		t.Fatal("SplitChain", c, front, rest, ok)
	}
	for _, k := range []int{0, 1, 77, size - 3} {
		p, _ := impl.IndexIn(b, root, k)
		if q, ok := impl.IndexIn(c, front, k); q != p || !ok || q != (impl.Point{X: 1, Y: bits.TrailingZeros(uint(k+1)) + 1}) {
			t.Error("IndexIn the front", k, p, q, ok)
		}
	}
	for _, k := range []int{0, 1, 2, 3, 500000, size + 1} {
		p, _ := impl.IndexIn(b, root, size-2+k)
		if q, ok := impl.IndexIn(c, rest, k); q != p || !ok || (q.X == 2) != (k > 1) {
			t.Error("IndexIn the rest", k, p, q, ok)
		}
	}
	if k, ok := impl.FirstWhere(c, rest, impl.Point{X: 1}, 1); k != 2 || !ok {
		t.Error("FirstWhere of the rest", k, ok)
	}
}

// wrongNodes has the nodes that may not stand in a pool as the i-th one, each of them unlike a good one in one thing.
func wrongNodes(a impl.Pool, i int) []impl.Node {
	m := impl.MaxXY
	var l []impl.Node
	add := func(change func(n *impl.Node)) {
		n := a.Nodes[i]
		change(&n)
		l = append(l, n)
	}
	for _, k := range []int{-1, -2, i + 1, i + 2, len(a.Nodes), len(a.Nodes) + 1, math.MinInt, math.MaxInt} {
		if k < 0 || k > i {
			add(func(n *impl.Node) { n.Left = k })
			add(func(n *impl.Node) { n.Right = k })
		}
	}
	for _, by := range []int{-1, 1, 2, math.MinInt, -a.Nodes[i].Size} {
		add(func(n *impl.Node) { n.Size += by })
	}
	for _, by := range []int{-1, 1, 2, math.MinInt, -a.Nodes[i].High} {
		add(func(n *impl.Node) { n.High += by })
	}
	for _, e := range []int{m + 1, -m - 1, math.MaxInt, math.MinInt} {
		add(func(n *impl.Node) { n.At.X = e })
		add(func(n *impl.Node) { n.At.Y = e })
	}
	return l
}

// checkNothing asks that all of chapter 6 gives the zero answer for a pool that is not good, though roots and all else are.
func checkNothing(t *testing.T, a impl.Pool) {
	t.Helper()
	if impl.GoodPool(a) {
		t.Fatal("GoodPool", a)
	}
	for _, root := range []int{0, 1, len(a.Nodes) - 1, len(a.Nodes)} {
		l, one := impl.ListOf(a, root)
		b, x, two := impl.BuildChain(a, rowList(1, root%3))
		c, y, three := impl.JoinChains(a, root, 0)
		d, z, w, four := impl.SplitChain(a, root, 0)
		p, five := impl.IndexIn(a, root, 0)
		k, six := impl.FirstWhere(a, root, impl.Point{X: 1}, math.MinInt)
		if impl.GoodRoot(a, root) || one || two || three || four || five || six {
			t.Fatal("told of a pool that is not good", a, root, one, two, three, four, five, six)
		}
		if len(l)+len(b.Nodes)+len(c.Nodes)+len(d.Nodes) > 0 || x != 0 || y != 0 || z != 0 || w != 0 || p != (impl.Point{}) || k != 0 {
			t.Fatal("more than the zero answer", a, root, l, b, x, c, y, d, z, w, p, k)
		}
	}
}

func TestPromise6WrongNodes(t *testing.T) {
	n := numbers{state: 65}
	for _, s := range []shape{leanLeft, leanRight, fullShape, someShape(&n)} {
		for high := 1; high <= 4; high++ {
			var a impl.Pool
			next := 0
			grow(&a, s, high, &next)
			grow(&a, fullShape, 2, &next)
			for i := range a.Nodes {
				for _, wrong := range wrongNodes(a, i) {
					b := impl.Pool{Nodes: slices.Clone(a.Nodes)}
					b.Nodes[i] = wrong
					checkNothing(t, b)
				}
			}
		}
	}
	// Highs that differ by 2, to either side, with the Size and the High that follow from them.
	for _, nodes := range [][]impl.Node{
		{leaf(1), over(1, 0, 2, 2, 2), over(2, 0, 3, 3, 3)}, {leaf(1), over(0, 1, 2, 2, 2), over(0, 2, 3, 3, 3)},
		{leaf(1), over(1, 1, 3, 2, 2), over(2, 1, 5, 3, 3), over(3, 1, 7, 4, 4)}, {leaf(1), over(1, 1, 3, 2, 2), over(1, 2, 5, 3, 3), over(1, 3, 7, 4, 4)},
	} {
		checkNothing(t, impl.Pool{Nodes: nodes})
	}
	checkNothing(t, leaves(impl.MaxNodes+1))
	checkNothing(t, leaves(1000))
	checkNothing(t, impl.Pool{Nodes: make([]impl.Node, 1)})
	checkNothing(t, impl.Pool{Nodes: make([]impl.Node, impl.MaxNodes)})
}

// Nodes of one number on both sides, and such as no root needs, are as good as others.
func TestPromise6GoodPools(t *testing.T) {
	m := impl.MaxXY
	for _, nodes := range [][]impl.Node{
		nil, {}, {leaf(m)}, {{Size: 1, High: 1, At: impl.Point{X: -m, Y: -m}}}, {{Size: 1, High: 1, At: impl.Point{X: m, Y: -m}}, leaf(0)},
		{leaf(1), over(1, 1, 3, 2, 2)}, {leaf(1), over(1, 0, 2, 2, 1)}, {leaf(1), over(0, 1, 2, 2, 1)}, {leaf(3), over(1, 1, 3, 2, 3), over(2, 1, 5, 3, 3), over(1, 2, 5, 3, 3)},
		leaves(impl.MaxNodes).Nodes, doubled(62, func(int) impl.Point { return impl.Point{} }).Nodes,
	} {
		a := impl.Pool{Nodes: nodes}
		if !impl.GoodPool(a) {
			t.Error("GoodPool", a)
		}
		for root := range len(nodes) + 1 {
			if !impl.GoodRoot(a, root) {
				t.Error("GoodRoot", a, root)
			}
		}
		for _, root := range []int{-1, len(nodes) + 1, math.MinInt, math.MaxInt} {
			if l, ok := impl.ListOf(a, root); impl.GoodRoot(a, root) || len(l) != 0 || ok {
				t.Error("no root", a, root, l, ok)
			}
		}
	}
}
