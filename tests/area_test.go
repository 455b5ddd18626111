package tests

import (
	"math"
	"slices"
	"testing"

	"loop.example/g00780/impl"
)

// smallHulls has the hulls that are told of the points of a square.
func smallHulls(side int) [][]impl.Point {
	var l [][]impl.Point
	square := grid(side)
	for k := range 1 << len(square) {
		s := subset(square, k)
		if h, _ := modelHull(s); len(h) == len(s) {
			l = append(l, h)
		}
	}
	return l
}

func TestPromise8AllSmallHulls(t *testing.T) {
	hulls := smallHulls(4)
	if len(hulls) < 600 {
		t.Fatal("few hulls", len(hulls))
	}
	for _, h := range hulls {
		for _, by := range []impl.Point{{}, {X: -2, Y: -1}, {X: impl.MaxXY - 3, Y: -impl.MaxXY}} {
			checkPick(t, shifted(h, by))
			checkColumns(t, shifted(h, by))
		}
		for k := 2; k < len(h)-1; k++ {
			checkCut(t, h, k)
			checkCut(t, shifted(h, impl.Point{X: -2, Y: -1}), k)
		}
	}
}

func TestPromise8SmallHullsCounted(t *testing.T) {
	m := impl.MaxCount
	places := []impl.Point{{}, {X: -1, Y: -2}, {X: -m, Y: -m}, {X: m - 3, Y: m - 3}, {X: -m, Y: m - 3}}
	for i, h := range smallHulls(4) {
		on := shifted(h, places[i%len(places)])
		checkCounted(t, on)
		if len(h) > 2 {
			checkMiddle(t, on)
			checkMiddle(t, h)
		}
	}
}

func TestPromise8ManyHulls(t *testing.T) {
	n := numbers{state: 80}
	for range 600 {
		most := []int{2, 9, 300, 1000, impl.MaxXY}[n.word()%5]
		h, _ := modelHull(someSet(&n, most))
		checkPick(t, h)
		if most <= 1000 {
			checkColumns(t, h)
		}
		// A quarter round nothing else is inside.
		var turned []impl.Point
		for _, p := range h {
			turned = append(turned, impl.Point{X: -p.Y, Y: p.X})
		}
		turned, _ = modelHull(ordered(turned))
		checkPick(t, turned)
		one, _ := impl.InnerPoints(h)
		two, ok := impl.InnerPoints(turned)
		if one != two || !ok {
			t.Fatal("InnerPoints a quarter round", h, turned, one, two, ok)
		}
		for k := 2; k < len(h)-1; k++ {
			checkCut(t, h, k)
		}
	}
}

func TestPromise8ManyHullsCounted(t *testing.T) {
	n := numbers{state: 81}
	for range 100 {
		h, _ := modelHull(someSet(&n, []int{3, 9, 25, impl.MaxCount}[n.word()%4]))
		checkCounted(t, h)
		if len(h) > 2 {
			checkMiddle(t, h)
		}
		for k := 2; k < len(h)-1; k++ {
			checkCut(t, h, k)
		}
	}
}

func TestPromise8Steps(t *testing.T) {
	square := around(6)
	for _, a := range square {
		for _, b := range square {
			on := 0
			for _, q := range square {
				if between(a, b, q) {
					on++
				}
			}
			if steps, ok := impl.StepsOn(a, b); steps != on-1 || !ok {
				t.Fatal("StepsOn", a, b, steps, ok, on)
			}
		}
	}
	n := numbers{state: 82}
	for range 4000 {
		a, step, many := n.point(impl.MaxXY), n.point(1000), n.within(1000)
		for _, b := range []impl.Point{n.point(impl.MaxXY), grown(step, many, impl.Point{}), grown(step, many, a), {X: a.X, Y: step.Y}, {X: step.X, Y: a.Y}, a} {
			steps, ok := impl.StepsOn(a, b)
			back, is := impl.StepsOn(b, a)
			if want, good := modelSteps(a, b); steps != want || back != want || ok != good || is != good {
				t.Fatal("StepsOn", a, b, steps, back, ok, is, want)
			}
		}
	}
}

func TestPromise8NamedSteps(t *testing.T) {
	m := impl.MaxXY
	for _, c := range []struct {
		a, b impl.Point
		want int
		ok   bool
	}{
		{impl.Point{}, impl.Point{}, 0, true},
		{impl.Point{X: -7, Y: 9}, impl.Point{X: -7, Y: 9}, 0, true},
		{impl.Point{X: m, Y: -m}, impl.Point{X: m, Y: -m}, 0, true},
		{impl.Point{}, impl.Point{X: 6, Y: 4}, 2, true},
		{impl.Point{X: 3, Y: 3}, impl.Point{X: 9, Y: 3}, 6, true},
		{impl.Point{X: 9, Y: 3}, impl.Point{X: 3, Y: 3}, 6, true},
		{impl.Point{X: 3, Y: 3}, impl.Point{X: 3, Y: 8}, 5, true},
		{impl.Point{X: 3, Y: 8}, impl.Point{X: 3, Y: 3}, 5, true},
		{impl.Point{X: 1, Y: 1}, impl.Point{X: -5, Y: 10}, 3, true},
		{impl.Point{X: 1, Y: 1}, impl.Point{X: 7, Y: -8}, 3, true},
		{impl.Point{X: 1, Y: 1}, impl.Point{X: -5, Y: -8}, 3, true},
		{impl.Point{X: 1, Y: 1}, impl.Point{X: 8, Y: 6}, 1, true},
		{impl.Point{}, impl.Point{X: 1}, 1, true},
		{impl.Point{}, impl.Point{Y: -1}, 1, true},
		{impl.Point{}, impl.Point{X: m, Y: m - 1}, 1, true},
		{impl.Point{X: -m, Y: -m}, impl.Point{X: m, Y: m}, 2 * m, true},
		{impl.Point{X: m, Y: -m}, impl.Point{X: -m, Y: m}, 2 * m, true},
		{impl.Point{X: m, Y: -m}, impl.Point{X: -m, Y: -m}, 2 * m, true},
		{impl.Point{X: -m, Y: m}, impl.Point{X: -m, Y: -m}, 2 * m, true},
		{impl.Point{X: -m, Y: -m}, impl.Point{X: m, Y: m - 1}, 1, true},
		// Fibonacci numbers, of which no two that follow one another are divided for long.
		{impl.Point{X: -416020, Y: -14930}, impl.Point{X: 416020, Y: 499299}, 1, true},
		// Not good.
		{impl.Point{X: m + 1}, impl.Point{}, 0, false},
		{impl.Point{}, impl.Point{X: -m - 1}, 0, false},
		{impl.Point{Y: m + 1}, impl.Point{Y: m + 1}, 0, false},
		{impl.Point{X: m}, impl.Point{X: m, Y: -m - 1}, 0, false},
		{impl.Point{X: math.MinInt, Y: math.MinInt}, impl.Point{X: math.MaxInt, Y: math.MaxInt}, 0, false},
		{impl.Point{X: math.MinInt}, impl.Point{}, 0, false},
		{impl.Point{}, impl.Point{Y: math.MinInt}, 0, false},
	} {
		if steps, ok := impl.StepsOn(c.a, c.b); steps != c.want || ok != c.ok {
			t.Error("StepsOn", c.a, c.b, steps, ok)
		}
	}
}

func TestPromise8NamedHulls(t *testing.T) {
	m := impl.MaxXY
	for _, c := range []struct {
		h                 []impl.Point
		twice, inner, rim int
	}{
		{nil, 0, 0, 0},
		{[]impl.Point{}, 0, 0, 0},
		{[]impl.Point{{}}, 0, 0, 1},
		{[]impl.Point{{X: -m, Y: m}}, 0, 0, 1},
		{[]impl.Point{{}, {X: 6, Y: 4}}, 0, 0, 3},
		{[]impl.Point{{}, {X: 1, Y: 5}}, 0, 0, 2},
		{[]impl.Point{{X: 2, Y: -3}, {X: 2, Y: 4}}, 0, 0, 8},
		{[]impl.Point{{X: -m, Y: m}, {X: m, Y: -m}}, 0, 0, 2*m + 1},
		// None on the sides but their corners, and none or one inside.
		{[]impl.Point{{}, {X: 1}, {Y: 1}}, 1, 0, 3},
		{[]impl.Point{{}, {X: 1}, {X: 1, Y: 1}, {Y: 1}}, 2, 0, 4},
		{[]impl.Point{{}, {X: 2, Y: 1}, {X: 1, Y: 2}}, 3, 1, 3},
		{[]impl.Point{{X: -1}, {Y: -1}, {X: 1}, {Y: 1}}, 4, 1, 4},
		{[]impl.Point{{}, {X: m, Y: m - 1}, {X: 1, Y: 1}}, 1, 0, 3},
		{[]impl.Point{{X: -m, Y: -m}, {X: m, Y: m - 1}, {X: m - 1, Y: m - 1}}, 2*m - 1, 0, 2*m - 1 + 2},
		// Many on the sides.
		{squareHull(), 32, 9, 16},
		{squareHull()[:3], 16, 3, 12},
		{[]impl.Point{{}, {X: 2}, {Y: 2}}, 4, 0, 6},
		{[]impl.Point{{X: -5, Y: -5}, {X: 95, Y: -5}, {X: 95, Y: -4}, {X: -5, Y: -4}}, 200, 0, 202},
		{[]impl.Point{{X: -m}, {X: m}, {X: m, Y: 1}, {X: -m, Y: 1}}, 4 * m, 0, 4*m + 2},
		{[]impl.Point{{X: -m, Y: -m}, {X: m, Y: -m}, {X: -m, Y: m}}, 4 * m * m, (2*m - 1) * (m - 1), 6 * m},
		{widest(), 8 * m * m, (2*m - 1) * (2*m - 1), 8 * m},
		{wheel(), 7452, 3697, 60},
		{bowl(3), 2, 0, 4},
		{bowl(4), 8, 2, 6},
	} {
		checkPick(t, c.h)
		if twice, ok := impl.TwiceArea(c.h); twice != c.twice || !ok {
			t.Error("TwiceArea", c.h, twice, ok)
		}
		if inner, ok := impl.InnerPoints(c.h); inner != c.inner || !ok {
			t.Error("InnerPoints", c.h, inner, ok)
		}
		if rim, ok := impl.RimPoints(c.h); rim != c.rim || !ok {
			t.Error("RimPoints", c.h, rim, ok)
		}
	}
}

// fullHulls have the most corners, few numbers or great ones.
func fullHulls() [][]impl.Point {
	full := bowl(impl.MaxPoints)
	var great []impl.Point
	for _, p := range full {
		great = append(great, grown(p, 2200, impl.Point{X: 1, Y: -impl.MaxXY}))
	}
	return [][]impl.Point{full, great, eyeRound(impl.MaxPoints), wheel()}
}

func TestPromise8FullHulls(t *testing.T) {
	for _, h := range fullHulls() {
		if len(h) != impl.MaxPoints {
			t.Fatal("not full", h)
		}
		checkPick(t, h)
		checkColumns(t, h)
		for k := 2; k < len(h)-1; k++ {
			checkCut(t, h, k)
		}
	}
	checkCounted(t, wheel())
	checkMiddle(t, wheel())
	for _, h := range [][]impl.Point{widest(), {{X: -impl.MaxXY, Y: -impl.MaxXY}, {X: impl.MaxXY, Y: 77}, {X: 99, Y: impl.MaxXY}}} {
		checkPick(t, h)
		checkColumns(t, h)
	}
}

func TestPromise8NamedCounts(t *testing.T) {
	m := impl.MaxCount
	all := []impl.Point{{X: -m, Y: -m}, {X: m, Y: -m}, {X: m, Y: m}, {X: -m, Y: m}}
	for _, c := range []struct {
		h       []impl.Point
		in, rim int
	}{
		{nil, 0, 0},
		{[]impl.Point{}, 0, 0},
		{[]impl.Point{{}}, 0, 1},
		{[]impl.Point{{X: m, Y: -m}}, 0, 1},
		{[]impl.Point{{X: -m, Y: m}}, 0, 1},
		{[]impl.Point{{X: -1, Y: -1}, {X: 5, Y: 3}}, 0, 3},
		{[]impl.Point{{X: -m, Y: -m}, {X: m, Y: m}}, 0, 2*m + 1},
		{[]impl.Point{{X: -m, Y: m}, {X: m, Y: -m}}, 0, 2*m + 1},
		{[]impl.Point{{Y: -m}, {Y: m}}, 0, 2*m + 1},
		{squareHull(), 9, 16},
		{squareHull()[:3], 3, 12},
		{[]impl.Point{{}, {X: 2, Y: 1}, {X: 1, Y: 2}}, 1, 3},
		{all, (2*m - 1) * (2*m - 1), 8 * m},
		{all[:3], (2*m - 1) * (m - 1), 6 * m},
		{wheel(), 3697, 60},
	} {
		if in, rim, ok := impl.CountIn(c.h); in != c.in || rim != c.rim || !ok {
			t.Error("CountIn", c.h, in, rim, ok)
		}
		checkCounted(t, c.h)
	}
}

func TestPromise8NamedMiddles(t *testing.T) {
	m := impl.MaxCount
	all := []impl.Point{{X: -m, Y: -m}, {X: m, Y: -m}, {X: m, Y: m}, {X: -m, Y: m}}
	for _, c := range []struct {
		h      []impl.Point
		middle impl.Point
		by     int
	}{
		{squareHull(), impl.Point{X: 192, Y: 192}, 96},
		{[]impl.Point{{}, {X: 1}, {Y: 1}}, impl.Point{X: 1, Y: 1}, 3},
		{[]impl.Point{{}, {X: 6}, {Y: 6}}, impl.Point{X: 216, Y: 216}, 108},
		{[]impl.Point{{X: -6, Y: -6}, {X: 0, Y: -6}, {X: -6, Y: 0}}, impl.Point{X: -432, Y: -432}, 108},
		{[]impl.Point{{X: -7, Y: -2}, {X: -5, Y: -2}, {X: -5, Y: -1}, {X: -7, Y: -1}}, impl.Point{X: -72, Y: -18}, 12},
		{[]impl.Point{{X: -1, Y: 3}, {X: 5, Y: 1}, {X: 6, Y: 2}, {X: 2, Y: 4}}, impl.Point{X: 150, Y: 138}, 54},
		// 0, 0 in the middle.
		{[]impl.Point{{X: -3, Y: -3}, {X: 3, Y: -3}, {X: 3, Y: 3}, {X: -3, Y: 3}}, impl.Point{}, 216},
		{[]impl.Point{{X: -1}, {Y: -1}, {X: 1}, {Y: 1}}, impl.Point{}, 12},
		{[]impl.Point{{X: -2, Y: -1}, {X: 1, Y: -1}, {X: 1, Y: 2}}, impl.Point{}, 27},
		{wheel(), impl.Point{}, 3 * 7452},
		{all, impl.Point{}, 24 * m * m},
		{all[:3], impl.Point{X: 4 * m * m * m, Y: -4 * m * m * m}, 12 * m * m},
	} {
		if middle, by, ok := impl.MiddleOf(c.h); middle != c.middle || by != c.by || !ok {
			t.Error("MiddleOf", c.h, middle, by, ok)
		}
		checkMiddle(t, c.h)
	}
}

// One number of a hull is at MaxCount, at either end, in X or in Y, or one beyond it.
func TestPromise8MaxCount(t *testing.T) {
	m := impl.MaxCount
	for _, end := range []impl.Point{{X: m}, {X: -m}, {Y: m}, {Y: -m}} {
		one := impl.Point{X: sign(end.X), Y: sign(end.Y)}
		for _, rest := range [][]impl.Point{nil, {{}}, {{X: 1, Y: 2}}, {{X: 1, Y: 2}, {X: 2, Y: 1}}, {{X: -1, Y: -1}, {X: 1, Y: -1}, {X: 1, Y: 1}, {X: -1, Y: 1}}} {
			met, _ := modelHull(ordered(append(slices.Clone(rest), end)))
			beyond, _ := modelHull(ordered(append(slices.Clone(rest), grown(end, 1, one))))
			if len(met) != len(beyond) || !slices.Contains(beyond, grown(end, 1, one)) {
				t.Fatal("met, and beyond", met, beyond)
			}
			checkCounted(t, met)
			if in, rim, ok := impl.CountIn(beyond); in != 0 || rim != 0 || ok {
				t.Error("CountIn beyond", beyond, in, rim, ok)
			}
			if len(met) > 2 {
				checkMiddle(t, met)
			}
			if middle, by, ok := impl.MiddleOf(beyond); middle != (impl.Point{}) || by != 0 || ok {
				t.Error("MiddleOf beyond", beyond, middle, by, ok)
			}
			checkPick(t, beyond)
			checkColumns(t, beyond)
		}
	}
}

func sign(n int) int {
	return max(-1, min(1, n))
}

func TestPromise8NamedBoxes(t *testing.T) {
	m := impl.MaxXY
	for _, c := range []struct {
		s         []impl.Point
		low, high impl.Point
	}{
		{[]impl.Point{{}}, impl.Point{}, impl.Point{}},
		{[]impl.Point{{X: -3, Y: 8}}, impl.Point{X: -3, Y: 8}, impl.Point{X: -3, Y: 8}},
		{[]impl.Point{{X: m, Y: -m}}, impl.Point{X: m, Y: -m}, impl.Point{X: m, Y: -m}},
		{rightward(9, -3), impl.Point{X: -3}, impl.Point{X: 5}},
		{line(7, 4, -9, impl.Point{Y: 1}), impl.Point{X: 4, Y: -9}, impl.Point{X: 4, Y: -3}},
		{line(5, 1, 9, impl.Point{X: 1, Y: -2}), impl.Point{X: 1, Y: 1}, impl.Point{X: 5, Y: 9}},
		{[]impl.Point{{X: 3, Y: 5}, {X: 8, Y: 2}}, impl.Point{X: 3, Y: 2}, impl.Point{X: 8, Y: 5}},
		// The four numbers come of four points.
		{[]impl.Point{{X: -5, Y: 1}, {X: -2, Y: -7}, {X: 3, Y: 9}, {X: 4, Y: 2}}, impl.Point{X: -5, Y: -7}, impl.Point{X: 4, Y: 9}},
		{[]impl.Point{{X: -9, Y: -4}, {X: -8, Y: -2}, {X: -7, Y: -5}, {X: -6, Y: -3}}, impl.Point{X: -9, Y: -5}, impl.Point{X: -6, Y: -2}},
		{[]impl.Point{{X: 2, Y: 4}, {X: 3, Y: 9}, {X: 5, Y: 1}, {X: 6, Y: 3}}, impl.Point{X: 2, Y: 1}, impl.Point{X: 6, Y: 9}},
		{[]impl.Point{{X: -m}, {Y: -m}, {Y: m}, {X: m}}, impl.Point{X: -m, Y: -m}, impl.Point{X: m, Y: m}},
		{[]impl.Point{{X: 1, Y: 5}, {X: 1, Y: 8}, {X: 2, Y: 6}, {X: 2, Y: 7}}, impl.Point{X: 1, Y: 5}, impl.Point{X: 2, Y: 8}},
		{bowl(impl.MaxPoints), impl.Point{X: -30}, impl.Point{X: 29, Y: 900}},
		{grid(7), impl.Point{}, impl.Point{X: 6, Y: 6}},
		{ordered(widest()), widest()[0], widest()[2]},
	} {
		if low, high, ok := impl.BoxOf(c.s); low != c.low || high != c.high || !ok {
			t.Error("BoxOf", c.s, low, high, ok)
		}
	}
	for _, s := range [][]impl.Point{
		nil, {}, {{X: m + 1}}, {{Y: -m - 1}}, {{}, {X: m + 1}}, {{X: 1}, {}}, {{}, {}}, {{Y: 1}, {}}, squareHull(), reversed(rightward(4, 0)),
		rightward(impl.MaxPoints+1, 0), {{X: math.MinInt, Y: math.MaxInt}}, append(rightward(4, 0), impl.Point{X: 9, Y: m + 1}),
	} {
		if low, high, ok := impl.BoxOf(s); low != (impl.Point{}) || high != (impl.Point{}) || ok {
			t.Error("BoxOf", s, low, high, ok)
		}
	}
}

// A box is that of the hull, too, and no point is beyond it.
func TestPromise8ManyBoxes(t *testing.T) {
	n := numbers{state: 83}
	for range 500 {
		s := someSet(&n, []int{1, 9, impl.MaxXY}[n.word()%3])
		low, high, ok := impl.BoxOf(s)
		if ok != (len(s) > 0) {
			t.Fatal("BoxOf", s, low, high, ok)
		}
		h, _ := modelHull(s)
		if one, two, _ := impl.BoxOf(ordered(h)); low != one || high != two {
			t.Fatal("BoxOf the hull", s, h, low, high, one, two)
		}
		met := [4]bool{}
		for _, p := range s {
			if p.X < low.X || p.Y < low.Y || p.X > high.X || p.Y > high.Y {
				t.Fatal("beyond its box", s, low, high, p)
			}
			for i, is := range [4]bool{p.X == low.X, p.Y == low.Y, p.X == high.X, p.Y == high.Y} {
				met[i] = met[i] || is
			}
		}
		if ok && met != [4]bool{true, true, true, true} {
			t.Fatal("a box with room", s, low, high)
		}
	}
}

// checkNoArea asks that nothing is told of what is no good hull.
func checkNoArea(t *testing.T, h []impl.Point) {
	t.Helper()
	for name, told := range map[string]func([]impl.Point) (int, bool){"TwiceArea": impl.TwiceArea, "RimPoints": impl.RimPoints, "InnerPoints": impl.InnerPoints} {
		if n, ok := told(h); n != 0 || ok {
			t.Error(name, h, n, ok)
		}
	}
	if in, rim, ok := impl.CountIn(h); in != 0 || rim != 0 || ok {
		t.Error("CountIn", h, in, rim, ok)
	}
	if middle, by, ok := impl.MiddleOf(h); middle != (impl.Point{}) || by != 0 || ok {
		t.Error("MiddleOf", h, middle, by, ok)
	}
}

func TestPromise8NoHulls(t *testing.T) {
	a, b, c, d := impl.Point{X: 0, Y: 0}, impl.Point{X: 4, Y: 0}, impl.Point{X: 4, Y: 4}, impl.Point{X: 0, Y: 4}
	for _, h := range append(notHulls(), []impl.Point{c, d, a}, []impl.Point{d, a, b, c}, []impl.Point{a, b, c, d, a, b, c, d}, []impl.Point{a, a, a}, []impl.Point{a, c, b, d}, []impl.Point{{X: 0, Y: 9}, {X: 0, Y: 3}}) {
		checkNoArea(t, h)
	}
	full := wheel()
	checkNoArea(t, reversed(full))
	for k := 1; k < len(full); k++ {
		checkNoArea(t, startAt(full, k))
		checkNoArea(t, slices.Insert(slices.Clone(full[:len(full)-1]), k, impl.Point{}))
	}
	checkNoArea(t, append(slices.Clone(full), impl.Point{X: full[0].X, Y: full[0].Y + 1}))
}

// Of fewer than three points there is an area, 0, and no middle.
func TestPromise8FewPoints(t *testing.T) {
	for _, h := range [][]impl.Point{nil, {}, {{}}, {{X: -40, Y: 40}}, {{}, {X: 5}}, {{X: -40, Y: -40}, {X: 40, Y: 40}}, {{X: 3}, {X: 3, Y: 1}}} {
		checkPick(t, h)
		checkCounted(t, h)
		if middle, by, ok := impl.MiddleOf(h); middle != (impl.Point{}) || by != 0 || ok {
			t.Error("MiddleOf", h, middle, by, ok)
		}
	}
}
