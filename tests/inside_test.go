package tests

import (
	"math"
	"slices"
	"testing"

	"loop.example/g00780/impl"
)

// around has the points of a square, and those round it.
func around(side int) []impl.Point {
	var l []impl.Point
	for _, p := range grid(side + 4) {
		l = append(l, impl.Point{X: p.X - 2, Y: p.Y - 2})
	}
	return l
}

func TestPromise4AllSmallHulls(t *testing.T) {
	square := grid(4)
	hulls := 0
	for k := range 1 << len(square) {
		s := subset(square, k)
		h, _ := modelHull(s)
		if len(h) < 3 || len(h) < len(s) {
			continue
		}
		hulls++
		for _, q := range around(4) {
			checkFan(t, h, q)
		}
	}
	if hulls < 500 {
		t.Fatal("few hulls", hulls)
	}
}

func TestPromise4ManyHulls(t *testing.T) {
	n := numbers{state: 40}
	for range 300 {
		most := []int{3, 9, 1000, impl.MaxXY}[n.word()%4]
		h, _ := modelHull(someSet(&n, most))
		if len(h) < 3 {
			continue
		}
		for _, q := range near(h) {
			checkFan(t, h, q)
		}
		for range 10 {
			checkFan(t, h, n.point(most))
		}
	}
}

func TestPromise4FullHulls(t *testing.T) {
	for _, h := range [][]impl.Point{bowl(impl.MaxPoints), eyeRound(impl.MaxPoints), bowl(3), bowl(4)} {
		for k, p := range h {
			other := h[(k+len(h)/2)%len(h)]
			for _, q := range []impl.Point{p, {X: p.X, Y: p.Y - 1}, {X: p.X + 1, Y: p.Y}, {X: p.X, Y: p.Y + 1}, {X: (p.X + other.X) / 2, Y: (p.Y + other.Y) / 2}} {
				checkFan(t, h, q)
			}
		}
		fan, ok := impl.FanOf(h)
		if !ok || len(fan) != len(h)-2 {
			t.Error("FanOf", h, fan, ok)
		}
	}
}

func TestPromise4NamedSegments(t *testing.T) {
	m := impl.MaxXY
	for _, c := range []struct {
		a, b, q impl.Point
		on, ok  bool
	}{
		{impl.Point{}, impl.Point{}, impl.Point{}, true, true},
		{impl.Point{X: 3, Y: 4}, impl.Point{X: 3, Y: 4}, impl.Point{X: 3, Y: 4}, true, true},
		{impl.Point{X: 3, Y: 4}, impl.Point{X: 3, Y: 4}, impl.Point{X: 3, Y: 5}, false, true},
		{impl.Point{X: 3, Y: 4}, impl.Point{X: 3, Y: 4}, impl.Point{X: 2, Y: 4}, false, true},
		{impl.Point{X: 3, Y: 4}, impl.Point{X: 3, Y: 4}, impl.Point{X: 6, Y: 8}, false, true},
		// Level ones.
		{impl.Point{X: -2, Y: 1}, impl.Point{X: 5, Y: 1}, impl.Point{X: 0, Y: 1}, true, true},
		{impl.Point{X: -2, Y: 1}, impl.Point{X: 5, Y: 1}, impl.Point{X: -2, Y: 1}, true, true},
		{impl.Point{X: -2, Y: 1}, impl.Point{X: 5, Y: 1}, impl.Point{X: 5, Y: 1}, true, true},
		{impl.Point{X: -2, Y: 1}, impl.Point{X: 5, Y: 1}, impl.Point{X: 6, Y: 1}, false, true},
		{impl.Point{X: -2, Y: 1}, impl.Point{X: 5, Y: 1}, impl.Point{X: -3, Y: 1}, false, true},
		{impl.Point{X: -2, Y: 1}, impl.Point{X: 5, Y: 1}, impl.Point{X: 0, Y: 2}, false, true},
		// Upright ones.
		{impl.Point{X: 7, Y: 5}, impl.Point{X: 7, Y: -5}, impl.Point{X: 7, Y: 0}, true, true},
		{impl.Point{X: 7, Y: 5}, impl.Point{X: 7, Y: -5}, impl.Point{X: 7, Y: 5}, true, true},
		{impl.Point{X: 7, Y: 5}, impl.Point{X: 7, Y: -5}, impl.Point{X: 7, Y: -5}, true, true},
		{impl.Point{X: 7, Y: 5}, impl.Point{X: 7, Y: -5}, impl.Point{X: 7, Y: 6}, false, true},
		{impl.Point{X: 7, Y: 5}, impl.Point{X: 7, Y: -5}, impl.Point{X: 7, Y: -6}, false, true},
		{impl.Point{X: 7, Y: 5}, impl.Point{X: 7, Y: -5}, impl.Point{X: 8, Y: 0}, false, true},
		// Slanting ones.
		{impl.Point{X: 0, Y: 9}, impl.Point{X: 6, Y: 0}, impl.Point{X: 2, Y: 6}, true, true},
		{impl.Point{X: 0, Y: 9}, impl.Point{X: 6, Y: 0}, impl.Point{X: 3, Y: 5}, false, true},
		{impl.Point{X: 0, Y: 9}, impl.Point{X: 6, Y: 0}, impl.Point{X: -2, Y: 12}, false, true},
		{impl.Point{X: 0, Y: 9}, impl.Point{X: 6, Y: 0}, impl.Point{X: 8, Y: -3}, false, true},
		// The longest ones.
		{impl.Point{X: -m, Y: -m}, impl.Point{X: m, Y: m}, impl.Point{}, true, true},
		{impl.Point{X: -m, Y: -m}, impl.Point{X: m, Y: m}, impl.Point{X: m, Y: m}, true, true},
		{impl.Point{X: -m, Y: -m}, impl.Point{X: m, Y: m}, impl.Point{X: 1}, false, true},
		{impl.Point{X: -m, Y: -m}, impl.Point{X: m, Y: m - 1}, impl.Point{}, false, true},
		{impl.Point{X: m, Y: -m}, impl.Point{X: 0, Y: 0}, impl.Point{X: -m, Y: m}, false, true},
		// Points that are not good, in line with the others, or all the same.
		{impl.Point{X: m + 1}, impl.Point{}, impl.Point{}, false, false},
		{impl.Point{}, impl.Point{X: m + 1}, impl.Point{}, false, false},
		{impl.Point{}, impl.Point{}, impl.Point{X: m + 1}, false, false},
		{impl.Point{Y: -m - 1}, impl.Point{Y: m}, impl.Point{}, false, false},
		{impl.Point{Y: -m - 1}, impl.Point{Y: -m - 1}, impl.Point{Y: -m - 1}, false, false},
		{impl.Point{X: math.MinInt, Y: math.MinInt}, impl.Point{X: math.MaxInt, Y: math.MaxInt}, impl.Point{}, false, false},
	} {
		for _, ends := range [][2]impl.Point{{c.a, c.b}, {c.b, c.a}} {
			if on, ok := impl.OnSegment(ends[0], ends[1], c.q); on != c.on || ok != c.ok {
				t.Error("OnSegment", ends, c.q, on, ok)
			}
		}
	}
}

func TestPromise4AllSmallSegmentsAndTriangles(t *testing.T) {
	square := grid(4)
	for _, a := range square {
		for _, b := range square {
			for _, c := range square {
				on, ok := impl.OnSegment(a, b, c)
				if want, is := modelOnSegment(a, b, c); on != want || ok != is {
					t.Fatal("OnSegment", a, b, c, on, ok)
				}
				for _, q := range square {
					at, ok := impl.InTriangle(a, b, c, q)
					if want, is := modelInTriangle(a, b, c, q); at != want || ok != is {
						t.Fatal("InTriangle", a, b, c, q, at, ok)
					}
				}
			}
		}
	}
}

func TestPromise4NamedTriangles(t *testing.T) {
	m := impl.MaxXY
	a, b, c := impl.Point{X: 0, Y: 0}, impl.Point{X: 6, Y: 0}, impl.Point{X: 0, Y: 6}
	for _, k := range []struct {
		q    impl.Point
		want int
	}{
		{a, impl.WhRim}, {b, impl.WhRim}, {c, impl.WhRim},
		{impl.Point{X: 3, Y: 0}, impl.WhRim}, {impl.Point{X: 2, Y: 4}, impl.WhRim}, {impl.Point{X: 0, Y: 5}, impl.WhRim},
		{impl.Point{X: 7, Y: 0}, impl.WhOut}, {impl.Point{X: -1, Y: 0}, impl.WhOut}, {impl.Point{X: 0, Y: 7}, impl.WhOut}, {impl.Point{X: 0, Y: -1}, impl.WhOut},
		{impl.Point{X: 7, Y: -1}, impl.WhOut}, {impl.Point{X: -1, Y: 7}, impl.WhOut},
		{impl.Point{X: 1, Y: 1}, impl.WhIn}, {impl.Point{X: 2, Y: 3}, impl.WhIn},
		{impl.Point{X: 3, Y: 4}, impl.WhOut}, {impl.Point{X: 3, Y: -1}, impl.WhOut}, {impl.Point{X: -1, Y: 3}, impl.WhOut}, {impl.Point{X: -1, Y: -1}, impl.WhOut},
		{impl.Point{X: m, Y: m}, impl.WhOut}, {impl.Point{X: -m, Y: m}, impl.WhOut},
	} {
		for _, f := range [][3]impl.Point{{a, b, c}, {b, c, a}, {c, a, b}} {
			if at, ok := impl.InTriangle(f[0], f[1], f[2], k.q); at != k.want || !ok {
				t.Error("InTriangle", f, k.q, at, ok)
			}
		}
		for _, f := range [][3]impl.Point{{a, c, b}, {c, b, a}, {b, a, c}} {
			if at, ok := impl.InTriangle(f[0], f[1], f[2], k.q); at != 0 || ok {
				t.Error("InTriangle that turns right", f, k.q, at, ok)
			}
		}
	}
}

func TestPromise4GreatTriangles(t *testing.T) {
	m := impl.MaxXY
	a, b, c := impl.Point{X: -m, Y: -m}, impl.Point{X: m, Y: -m}, impl.Point{X: -m, Y: m}
	for _, k := range []struct {
		q    impl.Point
		want int
	}{
		{impl.Point{}, impl.WhRim}, {impl.Point{X: -1}, impl.WhIn}, {impl.Point{X: 1}, impl.WhOut}, {impl.Point{X: m, Y: m}, impl.WhOut},
		{impl.Point{X: -m}, impl.WhRim}, {impl.Point{Y: -m}, impl.WhRim}, {impl.Point{X: 1 - m, Y: 1 - m}, impl.WhIn}, {impl.Point{X: m, Y: 1 - m}, impl.WhOut},
	} {
		if at, ok := impl.InTriangle(a, b, c, k.q); at != k.want || !ok {
			t.Error("InTriangle", k.q, at, ok)
		}
	}
}

func TestPromise4NoTriangles(t *testing.T) {
	m := impl.MaxXY
	a, b, c := impl.Point{X: 0, Y: 0}, impl.Point{X: 2, Y: 0}, impl.Point{X: 0, Y: 2}
	for _, k := range [][4]impl.Point{
		// In one line, and the same.
		{a, b, {X: 4}, b}, {a, {X: 4}, b, b}, {a, {X: 1, Y: 1}, {X: 2, Y: 2}, a}, {c, a, {Y: -2}, a},
		{a, a, a, a}, {a, a, b, a}, {a, b, a, a}, {b, a, a, a},
		// Not good.
		{a, b, c, {X: m + 1}}, {a, b, c, {Y: -m - 1}}, {a, b, c, {X: math.MinInt, Y: math.MaxInt}},
		{{X: -m - 1}, b, c, {X: 1}}, {a, {X: m + 1}, c, {X: 1}}, {a, b, {Y: m + 1}, {X: 1}}, {{X: -m - 1}, b, c, {X: -m - 1}},
		{{X: math.MinInt, Y: math.MinInt}, {X: math.MaxInt, Y: math.MinInt}, {Y: math.MaxInt}, a},
	} {
		if at, ok := impl.InTriangle(k[0], k[1], k[2], k[3]); at != 0 || ok {
			t.Error("InTriangle", k, at, ok)
		}
	}
}

func TestPromise4NamedPlaces(t *testing.T) {
	m := impl.MaxXY
	square := []impl.Point{{X: 0, Y: 0}, {X: 4, Y: 0}, {X: 4, Y: 4}, {X: 0, Y: 4}}
	all := []impl.Point{{X: -m, Y: -m}, {X: m, Y: -m}, {X: m, Y: m}, {X: -m, Y: m}}
	full := bowl(impl.MaxPoints)
	last := full[impl.MaxPoints-1]
	two := []impl.Point{{X: 0, Y: 0}, {X: 6, Y: 4}}
	for _, c := range []struct {
		h     []impl.Point
		q     impl.Point
		where int
		at    int
		rim   bool
	}{
		{nil, impl.Point{}, impl.WhOut, 0, false},
		{[]impl.Point{}, impl.Point{X: m, Y: m}, impl.WhOut, 0, false},
		{two[1:], two[1], impl.WhRim, 0, false},
		{two[1:], two[0], impl.WhOut, 0, false},
		{two[1:], impl.Point{X: 6, Y: 5}, impl.WhOut, 0, false},
		{[]impl.Point{{}}, impl.Point{}, impl.WhRim, 0, false},
		{two, two[0], impl.WhRim, 0, true},
		{two, two[1], impl.WhRim, 0, true},
		{two, impl.Point{X: 3, Y: 2}, impl.WhRim, 0, true},
		{two, impl.Point{X: 9, Y: 6}, impl.WhOut, 0, false},
		{two, impl.Point{X: -3, Y: -2}, impl.WhOut, 0, false},
		{two, impl.Point{X: 3, Y: 1}, impl.WhOut, 0, false},
		{two, impl.Point{X: 3, Y: 3}, impl.WhOut, 0, false},
		{square, square[0], impl.WhRim, 0, true},
		{square, square[1], impl.WhRim, 0, true},
		{square, square[2], impl.WhRim, 1, true},
		{square, square[3], impl.WhRim, 2, true},
		{square, impl.Point{X: 1, Y: 0}, impl.WhRim, 0, true},
		{square, impl.Point{X: 4, Y: 1}, impl.WhRim, 1, true},
		{square, impl.Point{X: 1, Y: 4}, impl.WhRim, 2, true},
		{square, impl.Point{X: 0, Y: 1}, impl.WhRim, 3, true},
		{square, impl.Point{X: 5, Y: 0}, impl.WhOut, 0, false},
		{square, impl.Point{X: 4, Y: -1}, impl.WhOut, 0, false},
		{square, impl.Point{X: -1, Y: 4}, impl.WhOut, 0, false},
		{square, impl.Point{X: 0, Y: 5}, impl.WhOut, 0, false},
		{square, impl.Point{X: 2, Y: 2}, impl.WhIn, 0, false},
		{square, impl.Point{X: 1, Y: 3}, impl.WhIn, 0, false},
		{square, impl.Point{X: -1, Y: 2}, impl.WhOut, 0, false},
		{square, impl.Point{X: m, Y: m}, impl.WhOut, 0, false},
		{square[:3], impl.Point{X: 2, Y: 2}, impl.WhRim, 2, true},
		{square[:3], impl.Point{X: 3, Y: 2}, impl.WhIn, 0, false},
		{square[:3], impl.Point{X: 2, Y: 3}, impl.WhOut, 0, false},
		{all, impl.Point{}, impl.WhIn, 0, false},
		{all, impl.Point{X: m, Y: m}, impl.WhRim, 1, true},
		{all, impl.Point{X: m, Y: 3}, impl.WhRim, 1, true},
		{all, impl.Point{X: -m, Y: 3}, impl.WhRim, 3, true},
		{all, impl.Point{X: 1 - m, Y: 1 - m}, impl.WhIn, 0, false},
		{all[:2], impl.Point{Y: -m}, impl.WhRim, 0, true},
		{full, last, impl.WhRim, impl.MaxPoints - 2, true},
		{full, full[0], impl.WhRim, 0, true},
		{full, full[1], impl.WhRim, 0, true},
		{full, full[31], impl.WhRim, 30, true},
		{full, impl.Point{X: 0, Y: 1}, impl.WhIn, 0, false},
		{full, impl.Point{X: 0, Y: -1}, impl.WhOut, 0, false},
		{full, impl.Point{X: 28, Y: 842}, impl.WhRim, impl.MaxPoints - 1, true},
	} {
		if where, ok := impl.WhereIs(c.h, c.q); where != c.where || !ok {
			t.Error("WhereIs", c.h, c.q, where, ok)
		}
		if at, rim := impl.RimAt(c.h, c.q); at != c.at || rim != c.rim {
			t.Error("RimAt", c.h, c.q, at, rim)
		}
	}
}

// notHulls are no good hulls: out of order, turned right, with a point in one line, one point twice, a point that is not good, or one too many.
func notHulls() [][]impl.Point {
	m := impl.MaxXY
	a, b, c, d := impl.Point{X: 0, Y: 0}, impl.Point{X: 4, Y: 0}, impl.Point{X: 4, Y: 4}, impl.Point{X: 0, Y: 4}
	return [][]impl.Point{
		{b, a}, {a, a}, {b, c, d, a}, {a, d, c, b}, {a, c, b}, {a, {X: 2}, b}, {a, {X: 2}, b, c, d}, {a, b, c, d, {Y: 2}},
		{a, b, c, d, a}, {a, b, c, c}, star(), {{X: m + 1}}, {{X: -m - 1}, b, c}, {a, {X: m + 1}}, {a, b, {X: 4, Y: m + 1}},
		{{X: math.MinInt, Y: math.MinInt}, {X: math.MaxInt, Y: math.MaxInt}}, bowl(impl.MaxPoints + 1), eyeRound(impl.MaxPoints + 2),
	}
}

func TestPromise4NoHulls(t *testing.T) {
	square := []impl.Point{{X: 0, Y: 0}, {X: 4, Y: 0}, {X: 4, Y: 4}, {X: 0, Y: 4}}
	for _, h := range notHulls() {
		for _, q := range []impl.Point{{}, {X: 2, Y: 2}, {X: 2}, h[0], h[len(h)-1], {X: impl.MaxXY, Y: 7}} {
			if where, ok := impl.WhereIs(h, q); where != 0 || ok {
				t.Error("WhereIs", h, q, where, ok)
			}
			if at, ok := impl.RimAt(h, q); at != 0 || ok {
				t.Error("RimAt", h, q, at, ok)
			}
		}
		for _, s := range [][]impl.Point{nil, {{}}, ordered(square)} {
			if in, ok := impl.InsideOf(h, s); len(in) != 0 || ok {
				t.Error("InsideOf", h, s, in, ok)
			}
		}
		for _, g := range [][]impl.Point{nil, {{}}, square, h} {
			is, ok := impl.Covers(h, g)
			if was, so := impl.Covers(g, h); is || ok || was || so {
				t.Error("Covers", h, g, is, ok, was, so)
			}
		}
		if fan, ok := impl.FanOf(h); len(fan) != 0 || ok {
			t.Error("FanOf", h, fan, ok)
		}
	}
}

func TestPromise4NotGoodPointsOfAHull(t *testing.T) {
	m := impl.MaxXY
	for _, h := range [][]impl.Point{
		nil, {{X: m}}, {{Y: -m}, {Y: m}}, {{X: -m}, {X: m}},
		{{X: -m, Y: -m}, {X: m, Y: -m}, {X: m, Y: m}, {X: -m, Y: m}},
	} {
		for _, q := range []impl.Point{{X: m + 1}, {X: -m - 1}, {Y: m + 1}, {Y: -m - 1}, {X: math.MinInt, Y: math.MinInt}, {X: math.MaxInt}} {
			if where, ok := impl.WhereIs(h, q); where != 0 || ok {
				t.Error("WhereIs", h, q, where, ok)
			}
			if at, ok := impl.RimAt(h, q); at != 0 || ok {
				t.Error("RimAt", h, q, at, ok)
			}
		}
	}
}

func TestPromise4NamedSetsInside(t *testing.T) {
	m := impl.MaxXY
	square := []impl.Point{{X: 0, Y: 0}, {X: 4, Y: 0}, {X: 4, Y: 4}, {X: 0, Y: 4}}
	all := []impl.Point{{X: -m, Y: -m}, {X: m, Y: -m}, {X: m, Y: m}, {X: -m, Y: m}}
	out := []impl.Point{{X: -1, Y: 0}, {X: 0, Y: 5}, {X: 5, Y: 0}, {X: 5, Y: 5}}
	some := []impl.Point{{X: -1, Y: 0}, {X: 0, Y: 2}, {X: 0, Y: 5}, {X: 1, Y: 1}, {X: 4, Y: 4}, {X: 5, Y: 4}}
	for _, c := range []struct {
		h, s, want []impl.Point
		ok         bool
	}{
		{nil, nil, nil, true}, {square, nil, nil, true}, {square, []impl.Point{}, nil, true}, {nil, some, nil, true},
		{square, grid(5), grid(5), true}, {square, out, nil, true},
		{square, some, []impl.Point{{X: 0, Y: 2}, {X: 1, Y: 1}, {X: 4, Y: 4}}, true},
		{square[:1], grid(5), grid(1), true}, {square[:1], out, nil, true},
		{square[:2], grid(5), rightward(5, 0), true}, {square[:2], rightward(9, -2), rightward(5, 0), true},
		{square[:3], grid(3), []impl.Point{{X: 0, Y: 0}, {X: 1, Y: 0}, {X: 1, Y: 1}, {X: 2, Y: 0}, {X: 2, Y: 1}, {X: 2, Y: 2}}, true},
		{all, ordered(all), ordered(all), true}, {all, bowl(impl.MaxPoints), bowl(impl.MaxPoints), true},
		{bowl(impl.MaxPoints), bowl(impl.MaxPoints), bowl(impl.MaxPoints), true}, {bowl(impl.MaxPoints), rightward(impl.MaxPoints, -30), grid(1), true},
		// No sets, and hulls that are sets handed in for them.
		{square, square, nil, false}, {square, reversed(some), nil, false}, {square, []impl.Point{{}, {}}, nil, false},
		{all, []impl.Point{{X: m + 1}}, nil, false}, {all, []impl.Point{{X: -m - 1}, {}}, nil, false}, {nil, []impl.Point{{Y: m + 1}}, nil, false},
		{all, rightward(impl.MaxPoints+1, 0), nil, false}, {nil, rightward(impl.MaxPoints+1, 0), nil, false},
	} {
		if in, ok := impl.InsideOf(c.h, c.s); !slices.Equal(in, c.want) || ok != c.ok {
			t.Error("InsideOf", c.h, c.s, in, ok)
		}
	}
}

func TestPromise4NamedCovers(t *testing.T) {
	m := impl.MaxXY
	square := []impl.Point{{X: 0, Y: 0}, {X: 4, Y: 0}, {X: 4, Y: 4}, {X: 0, Y: 4}}
	all := []impl.Point{{X: -m, Y: -m}, {X: m, Y: -m}, {X: m, Y: m}, {X: -m, Y: m}}
	full := bowl(impl.MaxPoints)
	inner := []impl.Point{{X: 1, Y: 1}, {X: 3, Y: 1}, {X: 2, Y: 3}}
	across := []impl.Point{{X: -1, Y: 2}, {X: 2, Y: -1}, {X: 5, Y: 2}, {X: 2, Y: 5}}
	for _, c := range []struct {
		g, h []impl.Point
		is   bool
	}{
		{nil, nil, true}, {nil, square[:1], false}, {nil, square[:2], false}, {nil, square, false},
		{square[:1], nil, true}, {square[:1], square[:1], true}, {square[:1], square[1:2], false}, {square[:1], square[:2], false}, {square[:1], square, false},
		{square[:2], nil, true}, {square[:2], square[:1], true}, {square[:2], square[1:2], true}, {square[:2], square[2:3], false},
		{square[:2], square[:2], true}, {square[:2], rightward(2, 1), true}, {square[:2], rightward(2, 4), false}, {square[:2], []impl.Point{{X: -1}, {X: 4}}, false},
		{square[:2], square[:3], false}, {square[:2], square, false},
		{square, nil, true}, {square, square[:1], true}, {square, square[:2], true}, {square, []impl.Point{{X: 1, Y: 1}, {X: 2, Y: 3}}, true},
		{square, []impl.Point{{X: 2, Y: 2}, {X: 5, Y: 2}}, false}, {square, []impl.Point{{X: -1, Y: 2}, {X: 5, Y: 2}}, false},
		{square, square, true}, {square, square[:3], true}, {square[:3], square, false}, {square, inner, true}, {inner, square, false},
		{square, across, false}, {across, square, false}, {across, inner, true},
		{all, all, true}, {all, square, true}, {square, all, false}, {all, full, true}, {full, full, true}, {full, all, false}, {full, full[:59], true}, {full[:59], full, false},
	} {
		if is, ok := impl.Covers(c.g, c.h); is != c.is || !ok {
			t.Error("Covers", c.g, c.h, is, ok)
		}
	}
}

func TestPromise4NamedFans(t *testing.T) {
	a, b, c, d, e := impl.Point{X: -5, Y: 0}, impl.Point{X: 0, Y: -3}, impl.Point{X: 4, Y: 0}, impl.Point{X: 3, Y: 4}, impl.Point{X: -2, Y: 5}
	for _, k := range []struct {
		h    []impl.Point
		want [][]impl.Point
		ok   bool
	}{
		{nil, nil, false}, {[]impl.Point{a}, nil, false}, {[]impl.Point{a, b}, nil, false},
		{[]impl.Point{a, b, c}, [][]impl.Point{{a, b, c}}, true},
		{[]impl.Point{a, c, e}, [][]impl.Point{{a, c, e}}, true},
		{[]impl.Point{a, b, c, d}, [][]impl.Point{{a, b, c}, {a, c, d}}, true},
		{[]impl.Point{a, b, c, d, e}, [][]impl.Point{{a, b, c}, {a, c, d}, {a, d, e}}, true},
		{[]impl.Point{b, c, d, e, a}, nil, false}, {[]impl.Point{a, e, d, c, b}, nil, false},
	} {
		if fan, ok := impl.FanOf(k.h); !sameLists(fan, k.want) || ok != k.ok {
			t.Error("FanOf", k.h, fan, ok)
		}
	}
}

// checkAllInside asks of a set and its hull that no point is outside.
func checkAllInside(t *testing.T, s []impl.Point) {
	t.Helper()
	h, _ := impl.HullOf(s)
	for _, p := range s {
		if where, ok := impl.WhereIs(h, p); where == impl.WhOut || !ok {
			t.Fatal("a point of a set is outside of its hull", s, h, p, where, ok)
		}
	}
	for k, p := range h {
		if where, ok := impl.WhereIs(h, p); where != impl.WhRim || !ok {
			t.Fatal("a corner is not on the rim", h, p, where, ok)
		}
		if at, ok := impl.RimAt(h, p); len(h) > 1 && (at != max(k-1, 0) || !ok) {
			t.Fatal("RimAt a corner", h, p, at, ok)
		}
	}
	if in, ok := impl.InsideOf(h, s); !slices.Equal(in, s) || !ok {
		t.Fatal("InsideOf its hull", s, h, in, ok)
	}
	if is, ok := impl.Covers(h, h); !is || !ok {
		t.Fatal("a hull covers itself", h, is, ok)
	}
}

func TestPromise3NoPointIsOutside(t *testing.T) {
	square := grid(4)
	for k := range 1 << len(square) {
		checkAllInside(t, subset(square, k))
	}
	n := numbers{state: 41}
	for range 500 {
		most := []int{1, 3, 9, 1000, impl.MaxXY}[n.word()%5]
		s := someSet(&n, most)
		checkAllInside(t, s)
		if len(s) == 0 {
			continue
		}
		// A hull covers that of a part, and is covered by it only where the corners are the same.
		h, _ := impl.HullOf(s)
		part := slices.Delete(slices.Clone(s), int(n.word()%uint64(len(s))), len(s))
		g, _ := impl.HullOf(part)
		if is, ok := impl.Covers(h, g); !is || !ok {
			t.Fatal("Covers a part", h, g, is, ok)
		}
		if is, ok := impl.Covers(g, h); is != slices.Equal(g, h) || !ok {
			t.Fatal("Covers the whole", g, h, is, ok)
		}
	}
	for _, s := range [][]impl.Point{bowl(impl.MaxPoints), ordered(eye(impl.MaxPoints)), rightward(impl.MaxPoints, -9), grid(8)[:impl.MaxPoints]} {
		checkAllInside(t, s)
	}
}
