package tests

import (
	"math"
	"slices"
	"testing"

	"loop.example/g00780/impl"
)

func TestPromise3AllSmallSets(t *testing.T) {
	square := grid(4)
	for k := range 1 << len(square) {
		checkHull(t, subset(square, k))
	}
}

func TestPromise3ManySets(t *testing.T) {
	n := numbers{state: 30}
	for range 1500 {
		most := []int{1, 3, 9, 1000, impl.MaxXY}[n.word()%5]
		var l []impl.Point
		for range n.word() % (impl.MaxPoints + 1) {
			l = append(l, n.point(most))
		}
		checkHull(t, ordered(l))
	}
}

// All points are near one line, or on three upright ones, so that many are no corners by little.
func TestPromise3NearlyLines(t *testing.T) {
	n := numbers{state: 31}
	for range 1500 {
		step, wide := n.point(3), n.within(1)
		var l []impl.Point
		for range n.word() % (impl.MaxPoints + 1) {
			k := n.within(50)
			l = append(l, impl.Point{X: k * step.X, Y: k*step.Y + wide*n.within(1)})
		}
		checkHull(t, ordered(l))
		for i := range l {
			l[i] = impl.Point{X: n.within(1) * impl.MaxXY, Y: n.within(impl.MaxXY)}
		}
		checkHull(t, ordered(l))
	}
}

func TestPromise3NamedSets(t *testing.T) {
	m := impl.MaxXY
	for _, c := range []struct{ s, hull, lower, upper []impl.Point }{
		{nil, nil, nil, nil},
		{[]impl.Point{}, nil, nil, nil},
		{[]impl.Point{{X: 3, Y: -7}}, []impl.Point{{X: 3, Y: -7}}, []impl.Point{{X: 3, Y: -7}}, []impl.Point{{X: 3, Y: -7}}},
		{
			[]impl.Point{{X: 1, Y: 5}, {X: 2, Y: 0}},
			[]impl.Point{{X: 1, Y: 5}, {X: 2, Y: 0}},
			[]impl.Point{{X: 1, Y: 5}, {X: 2, Y: 0}},
			[]impl.Point{{X: 2, Y: 0}, {X: 1, Y: 5}},
		},
		// Several in one line on each side, and several with the least X and with the greatest one.
		{
			grid(3),
			[]impl.Point{{X: 0, Y: 0}, {X: 2, Y: 0}, {X: 2, Y: 2}, {X: 0, Y: 2}},
			[]impl.Point{{X: 0, Y: 0}, {X: 2, Y: 0}, {X: 2, Y: 2}},
			[]impl.Point{{X: 2, Y: 2}, {X: 0, Y: 2}, {X: 0, Y: 0}},
		},
		// One point at the left, several with the same X at the right.
		{
			[]impl.Point{{X: 0, Y: 0}, {X: 5, Y: -3}, {X: 5, Y: 0}, {X: 5, Y: 4}},
			[]impl.Point{{X: 0, Y: 0}, {X: 5, Y: -3}, {X: 5, Y: 4}},
			[]impl.Point{{X: 0, Y: 0}, {X: 5, Y: -3}, {X: 5, Y: 4}},
			[]impl.Point{{X: 5, Y: 4}, {X: 0, Y: 0}},
		},
		// Several with the same X at the left, one point at the right.
		{
			[]impl.Point{{X: 0, Y: -3}, {X: 0, Y: 0}, {X: 0, Y: 4}, {X: 5, Y: 0}},
			[]impl.Point{{X: 0, Y: -3}, {X: 5, Y: 0}, {X: 0, Y: 4}},
			[]impl.Point{{X: 0, Y: -3}, {X: 5, Y: 0}},
			[]impl.Point{{X: 5, Y: 0}, {X: 0, Y: 4}, {X: 0, Y: -3}},
		},
		// The greatest differences there are, with points beside the middle of a long side.
		{
			[]impl.Point{{X: -m, Y: -m}, {X: -m, Y: m}, {X: 0, Y: 0}, {X: 0, Y: 1}, {X: m, Y: -m}, {X: m, Y: m}},
			[]impl.Point{{X: -m, Y: -m}, {X: m, Y: -m}, {X: m, Y: m}, {X: -m, Y: m}},
			[]impl.Point{{X: -m, Y: -m}, {X: m, Y: -m}, {X: m, Y: m}},
			[]impl.Point{{X: m, Y: m}, {X: -m, Y: m}, {X: -m, Y: -m}},
		},
		{
			[]impl.Point{{X: -m, Y: -m}, {X: 0, Y: -1}, {X: m, Y: m}},
			[]impl.Point{{X: -m, Y: -m}, {X: 0, Y: -1}, {X: m, Y: m}},
			[]impl.Point{{X: -m, Y: -m}, {X: 0, Y: -1}, {X: m, Y: m}},
			[]impl.Point{{X: m, Y: m}, {X: -m, Y: -m}},
		},
		{
			[]impl.Point{{X: -m, Y: -m}, {X: -1, Y: 0}, {X: m, Y: m}},
			[]impl.Point{{X: -m, Y: -m}, {X: m, Y: m}, {X: -1, Y: 0}},
			[]impl.Point{{X: -m, Y: -m}, {X: m, Y: m}},
			[]impl.Point{{X: m, Y: m}, {X: -1, Y: 0}, {X: -m, Y: -m}},
		},
	} {
		if h := checkHull(t, c.s); !slices.Equal(h, c.hull) {
			t.Error("HullOf", c.s, h)
		}
		if l, ok := impl.LowerOf(c.s); !ok || !slices.Equal(l, c.lower) {
			t.Error("LowerOf", c.s, l, ok)
		}
		if u, ok := impl.UpperOf(c.s); !ok || !slices.Equal(u, c.upper) {
			t.Error("UpperOf", c.s, u, ok)
		}
	}
}

// Three in a line are not a corner, however many there are.
func TestPromise3Lines(t *testing.T) {
	m := impl.MaxXY
	steps := []impl.Point{{X: 1}, {Y: 1}, {X: 1, Y: 1}, {X: 1, Y: -1}, {X: 3, Y: 2}, {X: 2, Y: -7}, {X: 16000, Y: 15999}}
	for _, step := range steps {
		for n := 2; n <= impl.MaxPoints; n++ {
			s := line(n, -9, 4, step)
			if h := checkHull(t, s); !slices.Equal(h, []impl.Point{s[0], s[n-1]}) {
				t.Error("a line", s, h)
			}
		}
	}
	for _, s := range [][]impl.Point{
		{{X: -m, Y: -m}, {X: 0, Y: 0}, {X: 1, Y: 1}, {X: m, Y: m}},
		{{X: -m, Y: m}, {X: -1, Y: 1}, {X: 0, Y: 0}, {X: m, Y: -m}},
		{{X: -m, Y: 0}, {X: 0, Y: 0}, {X: m, Y: 0}},
		{{X: m, Y: -m}, {X: m, Y: 0}, {X: m, Y: m}},
	} {
		if h := checkHull(t, s); !slices.Equal(h, []impl.Point{s[0], s[len(s)-1]}) {
			t.Error("a long line", s, h)
		}
	}
}

func TestPromise3FullSets(t *testing.T) {
	for n := 2; n <= impl.MaxPoints; n += 2 {
		if h := checkHull(t, bowl(n)); !slices.Equal(h, bowl(n)) {
			t.Error("a bowl", n, h)
		}
		if h := checkHull(t, ordered(eye(n))); len(h) != n {
			t.Error("an eye", n, h)
		}
	}
	for _, s := range [][]impl.Point{bowl(impl.MaxPoints + 1), rightward(impl.MaxPoints+1, 0), grid(8)} {
		checkNoSet(t, s)
	}
	full := grid(8)[:impl.MaxPoints]
	want := []impl.Point{{X: 0, Y: 0}, {X: 7, Y: 0}, {X: 7, Y: 3}, {X: 6, Y: 7}, {X: 0, Y: 7}}
	if h := checkHull(t, full); !slices.Equal(h, want) {
		t.Error("a square full inside", h)
	}
}

// checkNoSet asks for the zero answer of all that takes a set.
func checkNoSet(t *testing.T, s []impl.Point) {
	t.Helper()
	for _, f := range []func([]impl.Point) ([]impl.Point, bool){impl.HullOf, impl.LowerOf, impl.UpperOf, impl.WrapOf, impl.ByHalves} {
		if h, ok := f(s); len(h) != 0 || ok {
			t.Error("no set, but answered", s, h, ok)
		}
	}
	for _, h := range [][]impl.Point{nil, s} {
		if is, ok := impl.IsHullOf(s, h); is || ok {
			t.Error("no set, but IsHullOf", s, h, is, ok)
		}
	}
}

func TestPromise3NoSets(t *testing.T) {
	m := impl.MaxXY
	a, b, c := impl.Point{X: 0, Y: 0}, impl.Point{X: 4, Y: 0}, impl.Point{X: 4, Y: 3}
	for _, s := range [][]impl.Point{
		{b, a}, {a, a}, {a, c, b}, {b, c, a}, {a, b, b}, {a, a, b, c}, {a, b, c, a},
		{{X: m + 1}}, {{Y: -m - 1}}, {a, b, {X: m + 1}}, {{X: -m - 1}, a, b}, {a, b, {X: 4, Y: m + 1}},
		{{X: math.MinInt, Y: math.MinInt}}, {a, b, {X: math.MaxInt, Y: math.MaxInt}},
	} {
		checkNoSet(t, s)
	}
}

// The first half is one point, or a line, or all of it lies inside the hull of the rest.
func TestPromise3Halves(t *testing.T) {
	upright := line(5, 0, 0, impl.Point{Y: 1})
	for _, c := range []struct{ s, want []impl.Point }{
		{[]impl.Point{{X: 0, Y: 0}, {X: 1, Y: 1}}, []impl.Point{{X: 0, Y: 0}, {X: 1, Y: 1}}},
		{[]impl.Point{{X: 0, Y: 0}, {X: 1, Y: 1}, {X: 2, Y: 2}}, []impl.Point{{X: 0, Y: 0}, {X: 2, Y: 2}}},
		{[]impl.Point{{X: 0, Y: 0}, {X: 1, Y: 1}, {X: 2, Y: 0}}, []impl.Point{{X: 0, Y: 0}, {X: 2, Y: 0}, {X: 1, Y: 1}}},
		{slices.Concat(upright, line(5, 1, 0, impl.Point{Y: 1})), []impl.Point{{X: 0, Y: 0}, {X: 1, Y: 0}, {X: 1, Y: 4}, {X: 0, Y: 4}}},
		{slices.Concat(upright, line(5, 1, 2, impl.Point{X: 1})), []impl.Point{{X: 0, Y: 0}, {X: 5, Y: 2}, {X: 0, Y: 4}}},
		{slices.Concat(upright, line(6, 1, 9, impl.Point{X: 1, Y: -3})), []impl.Point{{X: 0, Y: 0}, {X: 6, Y: -6}, {X: 1, Y: 9}, {X: 0, Y: 4}}},
		{slices.Concat(rightward(4, 0), rightward(4, 4)), []impl.Point{{X: 0, Y: 0}, {X: 7, Y: 0}}},
		{
			[]impl.Point{{X: 0, Y: 0}, {X: 1, Y: 0}, {X: 2, Y: 0}, {X: 3, Y: -90}, {X: 3, Y: 90}, {X: 4, Y: 0}},
			[]impl.Point{{X: 0, Y: 0}, {X: 3, Y: -90}, {X: 4, Y: 0}, {X: 3, Y: 90}},
		},
	} {
		if h, ok := impl.ByHalves(c.s); !ok || !slices.Equal(h, c.want) {
			t.Error("ByHalves", c.s, h, ok)
		}
		checkHull(t, c.s)
	}
}

func TestPromise3GoodHulls(t *testing.T) {
	m := impl.MaxXY
	for _, h := range [][]impl.Point{
		nil, {}, {{}}, {{X: -m, Y: m}},
		{{X: 0, Y: 0}, {X: 0, Y: 1}}, {{X: 0, Y: 9}, {X: 1, Y: -9}}, {{X: -m, Y: m}, {X: m, Y: -m}},
		{{X: 0, Y: 0}, {X: 4, Y: 0}, {X: 0, Y: 4}},
		{{X: 0, Y: 0}, {X: 4, Y: 0}, {X: 4, Y: 4}, {X: 0, Y: 4}},
		{{X: -m, Y: -m}, {X: m, Y: -m}, {X: m, Y: m}, {X: -m, Y: m}},
		bowl(impl.MaxPoints), eyeRound(impl.MaxPoints),
	} {
		if !impl.GoodHull(h) {
			t.Error("a hull, but not good", h)
		}
	}
}

// eyeRound has the eye from its least point on, to the left round.
func eyeRound(n int) []impl.Point {
	l := eye(n)
	least := slices.MinFunc(l, before)
	return startAt(l, slices.Index(l, least))
}

// star goes round five corners twice, to the left throughout.
func star() []impl.Point {
	return []impl.Point{{X: -10, Y: 3}, {X: 6, Y: -8}, {X: 0, Y: 10}, {X: -6, Y: -8}, {X: 10, Y: 3}}
}

func TestPromise3NoHulls(t *testing.T) {
	m := impl.MaxXY
	a, b, c, d := impl.Point{X: 0, Y: 0}, impl.Point{X: 4, Y: 0}, impl.Point{X: 4, Y: 4}, impl.Point{X: 0, Y: 4}
	if modelGoodHull(star()) || cross(star()[4], star()[0], star()[1]) <= 0 || before(star()[0], star()[3]) >= 0 {
		t.Fatal("the star is to be no hull for going round twice alone")
	}
	for _, h := range [][]impl.Point{
		{b, a}, {d, a}, {a, a},
		{a, {X: 2, Y: 0}, b}, {a, {X: 1, Y: 1}, c}, {a, c, {X: 1, Y: 1}}, {a, {X: 0, Y: 1}, d}, rightward(impl.MaxPoints, 0),
		{a, {X: 2, Y: 0}, b, c, d}, {a, b, {X: 4, Y: 2}, c, d}, {a, b, c, {X: 2, Y: 4}, d}, {a, b, c, d, {X: 0, Y: 2}},
		{a, d, c, b}, {a, c, b}, {a, d, c},
		{b, c, d, a}, {c, d, a, b}, {d, a, b, c}, {b, c, a},
		{a, c, b, d}, {a, b, d, c}, {a, b, c, d, {X: 2, Y: 2}}, {a, b, {X: 3, Y: 2}, c, d},
		{a, b, c, d, a}, {a, b, c, a, b, c}, {a, a, b, c}, {a, b, b, c}, {a, b, c, c}, {a, b, c, a}, {a, b, a},
		star(), slices.Concat(star(), star()),
		{{X: m + 1}}, {{Y: -m - 1}}, {a, {X: m + 1}}, {{X: -m - 1}, a}, {a, b, {X: 4, Y: m + 1}}, {{X: -m - 1}, b, c},
		{{X: math.MinInt, Y: math.MinInt}, b, c}, {a, {X: math.MaxInt, Y: math.MinInt}, {X: math.MaxInt, Y: math.MaxInt}},
		bowl(impl.MaxPoints + 1), eyeRound(impl.MaxPoints + 2),
	} {
		if impl.GoodHull(h) {
			t.Error("no hull, but good", h)
		}
	}
}

// Every ring of up to six members of a small square, held against the document's words.
func TestPromise3AllSmallRings(t *testing.T) {
	square := grid(3)
	good := 0
	for n := range 7 {
		all := 1
		for range n {
			all *= len(square)
		}
		for k := range all {
			h := make([]impl.Point, n)
			for i := range h {
				h[i] = square[k%len(square)]
				k /= len(square)
			}
			want := modelGoodHull(h)
			if impl.GoodHull(h) != want {
				t.Fatal("GoodHull", h, want)
			}
			if want {
				good++
			}
		}
	}
	if good == 0 {
		t.Fatal("no hull among all rings")
	}
}

func TestPromise3RingsThatAreNearlyHulls(t *testing.T) {
	n := numbers{state: 32}
	for range 2000 {
		h, _ := modelHull(someSet(&n, []int{2, 5, 20, impl.MaxXY}[n.word()%4]))
		for k := range h {
			for _, r := range [][]impl.Point{startAt(h, k), reversed(startAt(h, k)), slices.Delete(slices.Clone(h), k, k+1)} {
				if impl.GoodHull(r) != modelGoodHull(r) {
					t.Fatal("GoodHull", r)
				}
			}
			other := h[n.word()%uint64(len(h))]
			for _, p := range []impl.Point{h[k], other, {X: (h[k].X + other.X) / 2, Y: (h[k].Y + other.Y) / 2}, n.point(20)} {
				r := slices.Insert(slices.Clone(h), k+1, p)
				if impl.GoodHull(r) != modelGoodHull(r) {
					t.Fatal("GoodHull", r)
				}
			}
		}
	}
}

func TestPromise3IsHullOf(t *testing.T) {
	m := impl.MaxXY
	s := []impl.Point{{X: 0, Y: 0}, {X: 0, Y: 4}, {X: 1, Y: 1}, {X: 2, Y: 0}, {X: 4, Y: 0}, {X: 4, Y: 4}}
	h := []impl.Point{{X: 0, Y: 0}, {X: 4, Y: 0}, {X: 4, Y: 4}, {X: 0, Y: 4}}
	full := bowl(impl.MaxPoints)
	for _, c := range []struct {
		s, h   []impl.Point
		is, ok bool
	}{
		{nil, nil, true, true}, {nil, []impl.Point{}, true, true}, {[]impl.Point{}, nil, true, true},
		{nil, s[:1], false, true}, {s[:1], nil, false, true}, {s[:1], s[:1], true, true}, {s[:1], s[1:2], false, true},
		{s[:2], s[:2], true, true}, {s[:2], reversed(s[:2]), false, true}, {s[:2], s[:1], false, true},
		{s, h, true, true}, {h[:2], h[:2], true, true},
		{s, startAt(h, 1), false, true}, {s, startAt(h, 3), false, true}, {s, reversed(h), false, true},
		{s, h[1:], false, true}, {s, h[:3], false, true}, {s, nil, false, true}, {s, s, false, true},
		{s, append(h[:4:4], h[0]), false, true}, {s, append(h[:4:4], impl.Point{X: 0, Y: 2}), false, true},
		{s, append(h[:3:3], impl.Point{X: 0, Y: 5}), false, true},
		{s, append(h[:3:3], impl.Point{X: 0, Y: m + 1}), false, true}, {s, []impl.Point{{X: math.MinInt, Y: math.MaxInt}}, false, true},
		{s, rightward(impl.MaxPoints, 0), false, true}, {s, rightward(impl.MaxPoints+1, 0), false, false},
		{nil, rightward(impl.MaxPoints+1, 0), false, false}, {s, slices.Repeat(h, 1000), false, false},
		{full, full, true, true}, {full, full[:impl.MaxPoints-1], false, true}, {full, append(slices.Clone(full), full[0]), false, false},
		{h, h, false, false}, {reversed(s), h, false, false}, {append(s[:6:6], s[5]), h, false, false},
		{append(s[:6:6], impl.Point{X: m + 1}), h, false, false}, {bowl(impl.MaxPoints + 1), full, false, false},
	} {
		if is, ok := impl.IsHullOf(c.s, c.h); is != c.is || ok != c.ok {
			t.Error("IsHullOf", c.s, c.h, is, ok)
		}
	}
}
