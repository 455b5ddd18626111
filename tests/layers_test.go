package tests

import (
	"math"
	"slices"
	"testing"

	"loop.example/g00780/impl"
)

// All sets of the points of a square of three by three, with each point in it and round it.
func TestPromise9AllSmallSets(t *testing.T) {
	square, places := grid(3), around(3)
	for k := range 1 << len(square) {
		s := subset(square, k)
		checkLayers(t, s)
		checkPeels(t, s)
		for _, q := range places {
			checkDepth(t, s, q)
		}
		corner := impl.Point{X: impl.MaxXY - 2, Y: -impl.MaxXY}
		checkLayers(t, shifted(s, corner))
		for _, q := range square {
			checkDepth(t, shifted(s, corner), grown(q, 1, corner))
		}
	}
}

// All sets of the points of a field of four by three, wide and high.
func TestPromise9AllSetsOfAField(t *testing.T) {
	wide, high := field(4, 3), field(3, 4)
	for k := range 1 << len(wide) {
		for _, l := range [][]impl.Point{wide, high} {
			s := subset(l, k)
			checkLayers(t, s)
			for i := k % 5; i < len(l); i += 5 {
				checkDepth(t, s, l[i])
			}
		}
	}
}

func TestPromise9ManySets(t *testing.T) {
	n := numbers{state: 90}
	for i := range 300 {
		most := []int{2, 4, 9, 100, impl.MaxXY}[n.word()%5]
		s := someSet(&n, most)
		if i%3 == 0 {
			s = manyPoints(&n, most)
		}
		checkLayers(t, s)
		if i%4 == 0 {
			checkPeels(t, s)
		}
		for range 4 {
			checkDepth(t, s, n.point(most))
		}
		for _, p := range s {
			if n.word()%4 == 0 {
				checkDepth(t, s, p)
			}
		}
	}
}

// manyPoints is a set of MaxPoints points or fewer, where some came twice.
func manyPoints(n *numbers, most int) []impl.Point {
	var l []impl.Point
	for range impl.MaxPoints {
		l = append(l, n.point(most))
	}
	return ordered(l)
}

func TestPromise9NamedLayers(t *testing.T) {
	m := impl.MaxXY
	for _, c := range []struct {
		s    []impl.Point
		want [][]impl.Point
	}{
		{nil, nil},
		{[]impl.Point{}, nil},
		{[]impl.Point{{}}, [][]impl.Point{{{}}}},
		{[]impl.Point{{X: -m, Y: m}}, [][]impl.Point{{{X: -m, Y: m}}}},
		{[]impl.Point{{}, {X: 3, Y: -5}}, [][]impl.Point{{{}, {X: 3, Y: -5}}}},
		// Three in one line: the middle one is on the rim, too.
		{[]impl.Point{{X: 1, Y: 1}, {X: 2, Y: 3}, {X: 4, Y: 7}}, [][]impl.Point{{{X: 1, Y: 1}, {X: 2, Y: 3}, {X: 4, Y: 7}}}},
		{[]impl.Point{{Y: -2}, {Y: 5}, {Y: 6}}, [][]impl.Point{{{Y: -2}, {Y: 5}, {Y: 6}}}},
		// Three that turn, and one on a side of them, or inside.
		{[]impl.Point{{}, {Y: 4}, {X: 4}}, [][]impl.Point{{{}, {Y: 4}, {X: 4}}}},
		{[]impl.Point{{}, {Y: 4}, {X: 1, Y: 3}, {X: 4}}, [][]impl.Point{{{}, {Y: 4}, {X: 1, Y: 3}, {X: 4}}}},
		{[]impl.Point{{}, {Y: 4}, {X: 1, Y: 2}, {X: 4}}, [][]impl.Point{{{}, {Y: 4}, {X: 4}}, {{X: 1, Y: 2}}}},
		// One on each side between the corners, and one in the middle.
		{grid(3), [][]impl.Point{{{}, {Y: 1}, {Y: 2}, {X: 1}, {X: 1, Y: 2}, {X: 2}, {X: 2, Y: 1}, {X: 2, Y: 2}}, {{X: 1, Y: 1}}}},
		{grid(4), [][]impl.Point{frame(4), shifted(grid(2), impl.Point{X: 1, Y: 1})}},
		// The innermost one is of one point, of two, of three in one line, of points that turn.
		{with(squareHull(), impl.Point{X: 2, Y: 2}), [][]impl.Point{ordered(squareHull()), {{X: 2, Y: 2}}}},
		{with(squareHull(), impl.Point{X: 1, Y: 2}, impl.Point{X: 2, Y: 3}), [][]impl.Point{ordered(squareHull()), {{X: 1, Y: 2}, {X: 2, Y: 3}}}},
		{field(5, 3), [][]impl.Point{{{}, {Y: 1}, {Y: 2}, {X: 1}, {X: 1, Y: 2}, {X: 2}, {X: 2, Y: 2}, {X: 3}, {X: 3, Y: 2}, {X: 4}, {X: 4, Y: 1}, {X: 4, Y: 2}}, {{X: 1, Y: 1}, {X: 2, Y: 1}, {X: 3, Y: 1}}}},
		{with(squareHull(), impl.Point{X: 1, Y: 1}, impl.Point{X: 2, Y: 2}, impl.Point{X: 3, Y: 1}), [][]impl.Point{ordered(squareHull()), {{X: 1, Y: 1}, {X: 2, Y: 2}, {X: 3, Y: 1}}}},
		{with(nested(2, 9), impl.Point{}), [][]impl.Point{{{X: -18, Y: -18}, {X: -18, Y: 36}, {X: 36, Y: -18}}, {{X: -9, Y: -9}, {X: -9, Y: 18}, {X: 18, Y: -9}}, {{}}}},
		// The greatest numbers, and points beside the longest sides or on them.
		{with(widest(), impl.Point{}), [][]impl.Point{ordered(widest()), {{}}}},
		{with(widest(), impl.Point{X: -m, Y: 5}, impl.Point{X: 1 - m, Y: 5}), [][]impl.Point{with(widest(), impl.Point{X: -m, Y: 5}), {{X: 1 - m, Y: 5}}}},
		{[]impl.Point{{X: -m, Y: -m}, {X: 0, Y: 0}, {X: 1, Y: 0}, {X: m, Y: m}}, [][]impl.Point{{{X: -m, Y: -m}, {X: 0, Y: 0}, {X: 1, Y: 0}, {X: m, Y: m}}}},
		{[]impl.Point{{X: -m, Y: -m}, {X: m - 1, Y: m - 2}, {X: m, Y: -m}, {X: m, Y: m}}, [][]impl.Point{{{X: -m, Y: -m}, {X: m, Y: -m}, {X: m, Y: m}}, {{X: m - 1, Y: m - 2}}}},
		{[]impl.Point{{X: -m, Y: -m}, {X: m - 1, Y: m - 1}, {X: m, Y: -m}, {X: m, Y: m}}, [][]impl.Point{{{X: -m, Y: -m}, {X: m - 1, Y: m - 1}, {X: m, Y: -m}, {X: m, Y: m}}}},
	} {
		layers, ok := impl.LayersOf(c.s)
		if !ok || !sameLists(layers, c.want) {
			t.Error("LayersOf", c.s, layers, ok)
		}
		if n, ok := impl.ManyLayers(c.s); n != len(c.want) || !ok {
			t.Error("ManyLayers", c.s, n, ok)
		}
		checkLayers(t, c.s)
		checkPeels(t, c.s)
		for _, q := range c.s {
			checkDepth(t, c.s, q)
		}
	}
}

// Sets of MaxPoints points, and how many each of their layers has.
func TestPromise9FullSets(t *testing.T) {
	m, full := impl.MaxXY, impl.MaxPoints
	for _, c := range []struct {
		s    []impl.Point
		many []int
	}{
		// All one layer: corners, one line, sides between four corners, or three.
		{bowl(full), []int{full}},
		{ordered(eye(full)), []int{full}},
		{ordered(wheel()), []int{full}},
		{rightward(full, -9), []int{full}},
		{line(full, 7, -m, impl.Point{Y: 30000}), []int{full}},
		{line(full, -m, m, impl.Point{X: 30000, Y: -30000}), []int{full}},
		{frame(16), []int{full}},
		{with(rightward(full-1, 0), impl.Point{X: 3, Y: 1}), []int{full}},
		// The most layers that there can be, and ones with less in the innermost one.
		{nested(20, 1), slices.Repeat([]int{3}, 20)},
		{nested(20, 25000), slices.Repeat([]int{3}, 20)},
		{with(nested(19, 26000), impl.Point{X: 1}, impl.Point{X: 2}, impl.Point{X: 3}), slices.Repeat([]int{3}, 20)},
		{with(nested(19, 26000), impl.Point{X: 1}, impl.Point{X: 2}), append(slices.Repeat([]int{3}, 19), 2)},
		{with(nested(19, 26000), impl.Point{X: 1}), append(slices.Repeat([]int{3}, 19), 1)},
		{field(6, 10), []int{28, 20, 12}},
		{field(10, 6), []int{28, 20, 12}},
		{field(4, 15), []int{34, 26}},
		{field(12, 5), []int{30, 22, 8}},
		{field(20, 3), []int{42, 18}},
		{with(frame(15), line(4, 3, 4, impl.Point{X: 2, Y: 1})...), []int{56, 4}},
		{with(rightward(58, 0), impl.Point{X: 3, Y: 1}, impl.Point{X: 3, Y: 2}), []int{59, 1}},
	} {
		layers := checkLayers(t, c.s)
		var many []int
		for _, l := range layers {
			many = append(many, len(l))
		}
		if !slices.Equal(many, c.many) {
			t.Error("how many in each layer", c.s, many, c.many)
		}
		checkPeels(t, c.s)
		for i, q := range c.s {
			if i%5 == 0 {
				checkDepth(t, c.s, q)
				checkDepth(t, c.s, impl.Point{X: q.X / 2, Y: q.Y / 3})
			}
		}
	}
}

func TestPromise9LayerOfOthers(t *testing.T) {
	m := impl.MaxXY
	for _, s := range [][]impl.Point{nil, {{X: 1}}, grid(5), nested(20, 25000), frame(16), bowl(impl.MaxPoints), with(widest(), impl.Point{})} {
		for _, p := range append(near(widest()), impl.Point{X: 1, Y: 7}, impl.Point{X: -1}, impl.Point{X: m + 1}, impl.Point{Y: -m - 1}, impl.Point{X: math.MinInt, Y: math.MinInt}, impl.Point{X: math.MaxInt}) {
			if slices.Contains(s, p) {
				continue
			}
			if k, ok := impl.LayerOf(s, p); k != 0 || ok {
				t.Fatal("LayerOf one that is not there", s, p, k, ok)
			}
		}
	}
}

func TestPromise9NamedPeels(t *testing.T) {
	five := grid(5)
	three, one := shifted(grid(3), impl.Point{X: 1, Y: 1}), []impl.Point{{X: 2, Y: 2}}
	for _, c := range []struct {
		s    []impl.Point
		most int
		want []impl.Point
		ok   bool
	}{
		{nil, 0, nil, true},
		{nil, impl.MaxPoints, nil, true},
		{one, 0, nil, true},
		{one, 1, one, true},
		{five, impl.MaxPoints, five, true},
		{five, 26, five, true},
		{five, 25, five, true},
		{five, 24, three, true},
		{five, 10, three, true},
		{five, 9, three, true},
		{five, 8, one, true},
		{five, 1, one, true},
		{five, 0, nil, true},
		{bowl(impl.MaxPoints), impl.MaxPoints, bowl(impl.MaxPoints), true},
		{bowl(impl.MaxPoints), impl.MaxPoints - 1, nil, true},
		{bowl(impl.MaxPoints), 0, nil, true},
		{rightward(impl.MaxPoints, 0), impl.MaxPoints - 1, nil, true},
		{nested(20, 25000), 59, nested(19, 25000), true},
		{nested(20, 25000), 3, nested(1, 25000), true},
		{nested(20, 25000), 2, nil, true},
		// Too many, or fewer than none.
		{five, -1, nil, false},
		{five, impl.MaxPoints + 1, nil, false},
		{five, math.MinInt, nil, false},
		{five, math.MaxInt, nil, false},
		{nil, -1, nil, false},
		{nil, impl.MaxPoints + 1, nil, false},
		{bowl(impl.MaxPoints), impl.MaxPoints + 1, nil, false},
	} {
		left, ok := impl.PeelTo(c.s, c.most)
		if ok != c.ok || !slices.Equal(left, c.want) {
			t.Error("PeelTo", c.s, c.most, left, ok)
		}
	}
}

func TestPromise9NamedDepths(t *testing.T) {
	m := impl.MaxXY
	row, slope := rightward(7, -3), line(5, -4, -6, impl.Point{X: 2, Y: 3})
	for _, c := range []struct {
		s    []impl.Point
		q    impl.Point
		want int
	}{
		// No other point.
		{nil, impl.Point{}, 0},
		{[]impl.Point{}, impl.Point{X: m, Y: -m}, 0},
		{[]impl.Point{{}}, impl.Point{}, 1},
		{[]impl.Point{{X: -m, Y: m}}, impl.Point{X: -m, Y: m}, 1},
		// One other point.
		{[]impl.Point{{}}, impl.Point{X: 1}, 0},
		{[]impl.Point{{X: m, Y: m}}, impl.Point{X: -m, Y: -m}, 0},
		{[]impl.Point{{}, {X: 3}}, impl.Point{}, 1},
		{[]impl.Point{{}, {X: 3}}, impl.Point{X: 3}, 1},
		// In one line with others on one side, on both, and beside them.
		{row, impl.Point{X: -4}, 0},
		{row, impl.Point{X: 4}, 0},
		{row, impl.Point{X: -3}, 1},
		{row, impl.Point{X: -2}, 2},
		{row, impl.Point{}, 4},
		{row, impl.Point{X: 1}, 3},
		{row, impl.Point{X: 3}, 1},
		{row, impl.Point{Y: 1}, 0},
		{row, impl.Point{Y: -1}, 0},
		{slope, impl.Point{}, 3},
		{slope, impl.Point{X: 2, Y: 3}, 2},
		{slope, impl.Point{X: -4, Y: -6}, 1},
		{slope, impl.Point{X: -6, Y: -9}, 0},
		{slope, impl.Point{X: 1, Y: 2}, 0},
		{[]impl.Point{{X: -3}, {X: 3}}, impl.Point{}, 1},
		{[]impl.Point{{Y: -3}, {Y: 1}, {Y: 3}}, impl.Point{}, 1},
		{[]impl.Point{{Y: -5}, {Y: -3}, {Y: 1}, {Y: 3}}, impl.Point{}, 2},
		{[]impl.Point{{X: -m, Y: -m}, {X: m, Y: m}}, impl.Point{}, 1},
		{line(3, 0, -m, impl.Point{Y: m}), impl.Point{}, 2},
		// Outside, a corner, on a side, inside: of the set, and not.
		{squareHull(), impl.Point{X: 9, Y: 9}, 0},
		{ordered(squareHull()), impl.Point{X: 9, Y: 9}, 0},
		{ordered(squareHull()), impl.Point{X: 8, Y: 0}, 0},
		{ordered(squareHull()), impl.Point{X: 4, Y: 5}, 0},
		{ordered(squareHull()), impl.Point{}, 1},
		{ordered(squareHull()), impl.Point{X: 4, Y: 4}, 1},
		{ordered(squareHull()), impl.Point{X: 2}, 1},
		{with(squareHull(), impl.Point{X: 2}), impl.Point{X: 2}, 2},
		{ordered(squareHull()), impl.Point{X: 1, Y: 1}, 1},
		{ordered(squareHull()), impl.Point{X: 2, Y: 2}, 2},
		{ordered(squareHull()), impl.Point{X: 2, Y: 1}, 1},
		{with(squareHull(), impl.Point{X: 2, Y: 2}), impl.Point{X: 2, Y: 2}, 3},
		{with(squareHull(), impl.Point{X: 2, Y: 1}), impl.Point{X: 2, Y: 1}, 2},
		{grid(3), impl.Point{X: 1, Y: 1}, 4 + 1},
		{grid(3), impl.Point{X: 1}, 2},
		{grid(3), impl.Point{}, 1},
		{grid(7), impl.Point{X: 3, Y: 3}, 25},
		{grid(7), impl.Point{X: 3, Y: -1}, 0},
		// Round a point that is not one of them, and in none of their lines.
		{bowl(9), impl.Point{X: 0, Y: 5}, 3},
		{nested(20, 1), impl.Point{}, 20},
		{nested(20, 25000), impl.Point{}, 20},
		{with(nested(19, 26000), impl.Point{}), impl.Point{}, 20},
		{ordered(wheel()), impl.Point{}, 30},
		{ordered(widest()), impl.Point{}, 2},
		{ordered(widest()), impl.Point{X: m}, 1},
		{ordered(widest()), impl.Point{X: m, Y: m}, 1},
		{with(widest(), impl.Point{}), impl.Point{}, 3},
		{with(widest(), impl.Point{}), impl.Point{X: 1}, 1},
		{rightward(impl.MaxPoints, 0), impl.Point{X: 30}, 30},
		{bowl(impl.MaxPoints), impl.Point{X: 3, Y: 9}, 1},
	} {
		if !impl.GoodSet(c.s) {
			if depth, ok := impl.DepthOf(c.s, c.q); depth != 0 || ok {
				t.Error("DepthOf no set", c.s, c.q, depth, ok)
			}
			continue
		}
		if depth := checkDepth(t, c.s, c.q); depth != c.want {
			t.Error("DepthOf", c.s, c.q, depth, c.want)
		}
	}
}

// A depth is as it was where all is moved or turned, and one point more or less makes it one more or less at most.
func TestPromise9DepthsOfOtherSets(t *testing.T) {
	n := numbers{state: 91}
	for range 800 {
		most := []int{3, 8, impl.MaxXY / 2}[n.word()%3]
		s, q, by := someSet(&n, most), n.point(most), n.point(impl.MaxXY/2)
		if len(s) > 0 && n.word()%2 == 0 {
			q = s[n.word()%uint64(len(s))]
		}
		depth, _ := impl.DepthOf(s, q)
		on, _ := impl.DepthOf(shifted(s, by), grown(q, 1, by))
		quarter, _ := impl.TurnSet(s)
		turned, ok := impl.DepthOf(quarter, impl.Point{X: -q.Y, Y: q.X})
		if depth != on || depth != turned || !ok {
			t.Fatal("DepthOf moved and turned", s, q, by, depth, on, turned, ok)
		}
		p := n.point(most)
		if more, ok := impl.DepthOf(with(s, p), q); !ok || more < depth || more > depth+1 {
			t.Fatal("DepthOf with a point more", s, q, p, depth, more, ok)
		}
		if !slices.Contains(s, q) {
			if more, ok := impl.DepthOf(with(s, q), q); !ok || more != depth+1 {
				t.Fatal("DepthOf with itself", s, q, depth, more, ok)
			}
		}
	}
}

// Layers are as they were where all is moved, turned or grown.
func TestPromise9LayersOfOtherSets(t *testing.T) {
	n := numbers{state: 92}
	for range 300 {
		s, by := someSet(&n, []int{3, 8, 1000}[n.word()%3]), n.point(1000)
		turned, _ := impl.TurnSet(s)
		var great []impl.Point
		for _, p := range s {
			great = append(great, grown(p, 990, by))
		}
		for _, p := range s {
			k, ok := impl.LayerOf(s, p)
			one, first := impl.LayerOf(shifted(s, by), grown(p, 1, by))
			two, second := impl.LayerOf(turned, impl.Point{X: -p.Y, Y: p.X})
			three, third := impl.LayerOf(great, grown(p, 990, by))
			if k != one || k != two || k != three || !ok || !first || !second || !third {
				t.Fatal("LayerOf moved, turned and grown", s, p, k, one, two, three)
			}
		}
	}
}

// checkNoLayers asks that nothing is told of what is no set.
func checkNoLayers(t *testing.T, s []impl.Point, p impl.Point) {
	t.Helper()
	if l, ok := impl.LayersOf(s); l != nil || ok {
		t.Error("LayersOf", s, l, ok)
	}
	if k, ok := impl.LayerOf(s, p); k != 0 || ok {
		t.Error("LayerOf", s, p, k, ok)
	}
	if l, ok := impl.WithoutHull(s); l != nil || ok {
		t.Error("WithoutHull", s, l, ok)
	}
	if k, ok := impl.ManyLayers(s); k != 0 || ok {
		t.Error("ManyLayers", s, k, ok)
	}
	if k, ok := impl.DepthOf(s, p); k != 0 || ok {
		t.Error("DepthOf", s, p, k, ok)
	}
	for _, most := range []int{0, 1, len(s), impl.MaxPoints} {
		if l, ok := impl.PeelTo(s, most); l != nil || ok {
			t.Error("PeelTo", s, most, l, ok)
		}
	}
}

func TestPromise9NoSets(t *testing.T) {
	m := impl.MaxXY
	for _, s := range [][]impl.Point{
		{{X: 1}, {}}, {{}, {}}, {{Y: 1}, {}}, {{X: m + 1}}, {{Y: -m - 1}}, {{}, {X: 2, Y: m + 1}}, {{X: -m - 1}, {}},
		squareHull(), reversed(grid(4)), append(grid(4), impl.Point{}), rightward(impl.MaxPoints+1, 0), bowl(impl.MaxPoints + 1), grid(8), frame(17),
		nested(21, 1), {{X: math.MinInt, Y: math.MinInt}, {X: math.MaxInt, Y: math.MaxInt}},
	} {
		for _, p := range []impl.Point{{}, s[0], s[len(s)-1], {X: 2, Y: 2}} {
			checkNoLayers(t, s, p)
		}
	}
}

func TestPromise9NoPoints(t *testing.T) {
	m := impl.MaxXY
	for _, s := range [][]impl.Point{nil, {{X: m, Y: m}}, grid(4), ordered(widest())} {
		for _, q := range []impl.Point{{X: m + 1}, {X: -m - 1}, {Y: m + 1}, {Y: -m - 1}, {X: m, Y: m + 1}, {X: math.MinInt, Y: math.MinInt}, {X: math.MaxInt, Y: math.MaxInt}, {Y: math.MinInt}} {
			if depth, ok := impl.DepthOf(s, q); depth != 0 || ok {
				t.Error("DepthOf", s, q, depth, ok)
			}
		}
	}
}

// A map is gone through in another order each time; what is told is the same.
func TestPromise9TheSameAtEachCall(t *testing.T) {
	for _, s := range [][]impl.Point{grid(7), nested(20, 25000), frame(16), field(12, 5), bowl(impl.MaxPoints)} {
		layers, _ := modelLayers(s)
		rest, _ := modelWithout(s)
		half, _ := modelPeel(s, 30)
		for range 50 {
			if l, ok := impl.LayersOf(s); !ok || !sameLists(l, layers) {
				t.Fatal("LayersOf", s, l, ok)
			}
			if l, ok := impl.WithoutHull(s); !ok || !slices.Equal(l, rest) {
				t.Fatal("WithoutHull", s, l, ok)
			}
			if l, ok := impl.PeelTo(s, 30); !ok || !slices.Equal(l, half) {
				t.Fatal("PeelTo", s, l, ok)
			}
		}
	}
}
