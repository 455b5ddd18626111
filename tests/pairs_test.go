package tests

import (
	"math"
	"slices"
	"testing"

	"loop.example/g00780/impl"
)

// All sets of the points of a square of three by three, here and at a corner of all good points, with each point in it and round it.
func TestPromise10AllSmallSets(t *testing.T) {
	square, places := grid(3), around(3)
	corner := impl.Point{X: impl.MaxXY - 2, Y: -impl.MaxXY}
	for k := range 1 << len(square) {
		s := subset(square, k)
		checkTwo(t, s)
		checkTwo(t, shifted(s, corner))
		for _, q := range places {
			checkAround(t, s, q)
		}
		for _, q := range square {
			checkAround(t, shifted(s, corner), grown(q, 1, corner))
		}
	}
}

// All sets of the points of a field of four by three, wide and high.
func TestPromise10AllSetsOfAField(t *testing.T) {
	wide, high := field(4, 3), field(3, 4)
	for k := range 1 << len(wide) {
		for _, l := range [][]impl.Point{wide, high} {
			s := subset(l, k)
			checkTwo(t, s)
			for i := k % 7; i < len(l); i += 7 {
				checkAround(t, s, l[i])
			}
		}
	}
}

func TestPromise10AllSmallHulls(t *testing.T) {
	hulls := slices.DeleteFunc(smallHulls(4), func(h []impl.Point) bool { return len(h) < 3 })
	if len(hulls) < 600 {
		t.Fatal("so few hulls", len(hulls))
	}
	for _, h := range hulls {
		checkAcross(t, h)
		checkDifferences(t, h)
		checkAcross(t, shifted(h, impl.Point{X: impl.MaxXY - 3, Y: -impl.MaxXY}))
	}
}

func TestPromise10ManySets(t *testing.T) {
	n := numbers{state: 100}
	for i := range 600 {
		most := []int{2, 4, 9, 100, impl.MaxXY}[n.word()%5]
		s := someSet(&n, most)
		if i%4 == 0 {
			s = manyPoints(&n, most)
		}
		checkTwo(t, s)
		checkAround(t, s, n.point(most))
		if len(s) > 0 {
			checkAround(t, s, s[n.word()%uint64(len(s))])
		}
		if h, _ := modelHull(s); len(h) > 2 {
			checkAcross(t, h)
		}
	}
}

func TestPromise10Apart(t *testing.T) {
	m := impl.MaxXY
	for _, c := range []struct {
		a, b impl.Point
		want int
	}{
		{impl.Point{}, impl.Point{}, 0},
		{impl.Point{X: 3, Y: -7}, impl.Point{X: 3, Y: -7}, 0},
		{impl.Point{}, impl.Point{X: 1}, 1},
		{impl.Point{}, impl.Point{Y: -1}, 1},
		{impl.Point{X: 1, Y: 1}, impl.Point{X: 4, Y: 5}, 25},
		{impl.Point{X: -2, Y: 4}, impl.Point{X: 1, Y: -3}, 58},
		{impl.Point{X: m}, impl.Point{X: -m}, 4000000000000},
		{impl.Point{Y: -m}, impl.Point{Y: m}, 4000000000000},
		{impl.Point{X: -m, Y: -m}, impl.Point{X: m, Y: m}, 8000000000000},
		{impl.Point{X: -m, Y: m}, impl.Point{X: m, Y: -m}, 8000000000000},
		{impl.Point{X: -m, Y: m}, impl.Point{X: m - 1, Y: -m}, 7999996000001},
		{impl.Point{X: m, Y: m}, impl.Point{X: m, Y: m}, 0},
	} {
		n, ok := impl.ApartOf(c.a, c.b)
		back, told := impl.ApartOf(c.b, c.a)
		if n != c.want || back != c.want || !ok || !told {
			t.Error("ApartOf", c.a, c.b, n, ok, back, told)
		}
	}
}

func TestPromise10NamedTwos(t *testing.T) {
	m := impl.MaxXY
	type two [2]impl.Point
	for _, c := range []struct {
		s             []impl.Point
		near, far     two
		least, enough int
	}{
		// Two points are both.
		{[]impl.Point{{}, {X: 1}}, two{{}, {X: 1}}, two{{}, {X: 1}}, 1, 1},
		{[]impl.Point{{X: 5, Y: -2}, {X: 5, Y: 7}}, two{{X: 5, Y: -2}, {X: 5, Y: 7}}, two{{X: 5, Y: -2}, {X: 5, Y: 7}}, 81, 81},
		{[]impl.Point{{X: -m, Y: -m}, {X: m, Y: m}}, two{{X: -m, Y: -m}, {X: m, Y: m}}, two{{X: -m, Y: -m}, {X: m, Y: m}}, 8 * m * m, 8 * m * m},
		{[]impl.Point{{X: -m, Y: m}, {X: m, Y: -m}}, two{{X: -m, Y: m}, {X: m, Y: -m}}, two{{X: -m, Y: m}, {X: m, Y: -m}}, 8 * m * m, 8 * m * m},
		{[]impl.Point{{X: -m, Y: m}, {X: 1 - m, Y: -m}}, two{{X: -m, Y: m}, {X: 1 - m, Y: -m}}, two{{X: -m, Y: m}, {X: 1 - m, Y: -m}}, 4*m*m + 1, 4*m*m + 1},
		// Of several with the same first point the one with the lesser second.
		{[]impl.Point{{}, {X: 1, Y: -1}, {X: 1, Y: 1}}, two{{}, {X: 1, Y: -1}}, two{{X: 1, Y: -1}, {X: 1, Y: 1}}, 2, 4},
		{[]impl.Point{{}, {X: 3, Y: -1}, {X: 3, Y: 1}}, two{{X: 3, Y: -1}, {X: 3, Y: 1}}, two{{}, {X: 3, Y: -1}}, 4, 10},
		{[]impl.Point{{X: 0, Y: -2}, {X: 0, Y: 2}, {X: 1, Y: 0}}, two{{X: 0, Y: -2}, {X: 1, Y: 0}}, two{{X: 0, Y: -2}, {X: 0, Y: 2}}, 5, 16},
		// Of several the one with the lesser first point, however great the second is.
		{[]impl.Point{{}, {X: 1, Y: 10}, {X: 1, Y: 12}, {X: 2}}, two{{}, {X: 2}}, two{{}, {X: 1, Y: 12}}, 4, 145},
		{[]impl.Point{{X: -5}, {Y: -5}, {Y: 5}, {X: 5}}, two{{X: -5}, {Y: -5}}, two{{X: -5}, {X: 5}}, 50, 100},
		{[]impl.Point{{}, {Y: 9}, {X: 9}, {X: 9, Y: 9}}, two{{}, {Y: 9}}, two{{}, {X: 9, Y: 9}}, 81, 162},
		{[]impl.Point{{}, {Y: 2}, {X: 9}, {X: 9, Y: 1}}, two{{X: 9}, {X: 9, Y: 1}}, two{{Y: 2}, {X: 9}}, 1, 85},
		// In one line.
		{rightward(7, -3), two{{X: -3}, {X: -2}}, two{{X: -3}, {X: 3}}, 1, 36},
		{[]impl.Point{{Y: -9}, {Y: -5}, {Y: 0}, {Y: 3}, {Y: 6}}, two{{}, {Y: 3}}, two{{Y: -9}, {Y: 6}}, 9, 225},
		{line(5, -4, -6, impl.Point{X: 2, Y: 3}), two{{X: -4, Y: -6}, {X: -2, Y: -3}}, two{{X: -4, Y: -6}, {X: 4, Y: 6}}, 13, 208},
		{line(3, -m, m, impl.Point{X: m, Y: -m}), two{{X: -m, Y: m}, {}}, two{{X: -m, Y: m}, {X: m, Y: -m}}, 2 * m * m, 8 * m * m},
		// All the points that may be, and the greatest numbers.
		{grid(7), two{{}, {Y: 1}}, two{{}, {X: 6, Y: 6}}, 1, 72},
		{rightward(impl.MaxPoints, 0), two{{}, {X: 1}}, two{{}, {X: impl.MaxPoints - 1}}, 1, 59 * 59},
		{line(impl.MaxPoints, m, -m, impl.Point{Y: 33898}), two{{X: m, Y: -m}, {X: m, Y: 33898 - m}}, two{{X: m, Y: -m}, {X: m, Y: 59*33898 - m}}, 33898 * 33898, 59 * 59 * 33898 * 33898},
		{bowl(impl.MaxPoints), two{{X: -1, Y: 1}, {}}, two{{X: -30, Y: 900}, {}}, 2, 900 + 810000},
		{ordered(widest()), two{{X: -m, Y: -m}, {X: -m, Y: m}}, two{{X: -m, Y: -m}, {X: m, Y: m}}, 4 * m * m, 8 * m * m},
		{with(widest(), impl.Point{}), two{{X: -m, Y: -m}, {}}, two{{X: -m, Y: -m}, {X: m, Y: m}}, 2 * m * m, 8 * m * m},
		{with(widest(), impl.Point{X: m, Y: m - 1}), two{{X: m, Y: m - 1}, {X: m, Y: m}}, two{{X: -m, Y: -m}, {X: m, Y: m}}, 1, 8 * m * m},
		{[]impl.Point{{X: -m, Y: 1 - m}, {X: -m, Y: m}, {X: m, Y: -m}, {X: m, Y: m - 1}}, two{{X: -m, Y: 1 - m}, {X: -m, Y: m}}, two{{X: -m, Y: m}, {X: m, Y: -m}}, (2*m - 1) * (2*m - 1), 8 * m * m},
	} {
		if a, b, ok := impl.NearestOf(c.s); (two{a, b}) != c.near || !ok {
			t.Error("NearestOf", c.s, a, b, ok)
		}
		if a, b, ok := impl.FarthestOf(c.s); (two{a, b}) != c.far || !ok || apart(a, b) != c.enough {
			t.Error("FarthestOf", c.s, a, b, ok)
		}
		if n, ok := impl.NearestByHalves(c.s); n != c.least || !ok {
			t.Error("NearestByHalves", c.s, n, ok)
		}
		checkTwo(t, c.s)
		for _, q := range c.s {
			checkAround(t, c.s, q)
		}
	}
}

// Of rows of each length that are wide but at one place, the nearest two stand there: in one half, or in both.
func TestPromise10HalvesOfRows(t *testing.T) {
	for n := 2; n <= impl.MaxPoints; n++ {
		for place := 1; place < n; place++ {
			for _, step := range []impl.Point{{X: 10}, {Y: 10}, {X: 1, Y: -30}, {X: 7, Y: 7}} {
				s := line(n, -300, 50, step)
				for k := place; k < n; k++ {
					s[k] = grown(step, -1, grown(impl.Point{X: step.X / 5, Y: step.Y / 5}, 1, s[k]))
				}
				s = ordered(s)
				least, ok := impl.NearestByHalves(s)
				if want := apart(impl.Point{}, impl.Point{X: step.X / 5, Y: step.Y / 5}); least != want || !ok {
					t.Fatal("NearestByHalves", s, least, ok, want)
				}
				if a, b, ok := impl.NearestOf(s); apart(a, b) != least || !ok {
					t.Fatal("NearestOf", s, a, b, ok)
				}
			}
		}
	}
}

// Two columns stand beside each other, each point high above the one below it: the nearest two are one of each column, at any height.
func TestPromise10HalvesOfColumns(t *testing.T) {
	for _, high := range []int{1, 2, 9, 29, impl.MaxPoints / 2} {
		for place := range high {
			for _, wide := range []int{1, 2, 4, 9, 10, 15, 29, 30} {
				var s []impl.Point
				for k := range high {
					s = append(s, impl.Point{Y: 30 * k}, impl.Point{X: wide, Y: 30*k + 15})
				}
				s[2*place].Y += 13
				s = ordered(s)
				want := wide*wide + 4
				if high > 1 {
					// The one that is higher is nearer to the next one of its own column, too.
					want = min(want, 17*17)
				}
				if high > 1 && place == high-1 {
					want = min(wide*wide+4, 900)
				}
				if least, ok := impl.NearestByHalves(s); least != want || !ok {
					t.Fatal("NearestByHalves", s, least, ok, want)
				}
				checkTwo(t, s)
			}
		}
	}
}

// The nearest two are in both halves, and others stand between them in the order of the set: above or below, on the left or on the right.
func TestPromise10HalvesWithOthersBetween(t *testing.T) {
	for many := range 28 {
		for left := range many + 1 {
			var s []impl.Point
			for k := range many {
				x := 1
				if k >= left {
					x = 4
				}
				s = append(s, impl.Point{X: x, Y: 100 + 6*k}, impl.Point{X: x, Y: -100 - 6*k})
			}
			s = with(s, impl.Point{}, impl.Point{X: 5, Y: 1})
			want := 26
			if many == 0 {
				want = apart(s[0], s[1])
			}
			if least, ok := impl.NearestByHalves(s); least != want || !ok {
				t.Fatal("NearestByHalves", s, least, ok)
			}
			if a, b, ok := impl.NearestOf(s); a != (impl.Point{}) || b != (impl.Point{X: 5, Y: 1}) || !ok {
				t.Fatal("NearestOf", s, a, b, ok)
			}
			checkTwo(t, s)
		}
	}
}

// As near in the left half, in the right one, and in both: the number is the same, and NearestOf tells the first two.
func TestPromise10AsNearInBothHalves(t *testing.T) {
	for n := 4; n <= impl.MaxPoints; n++ {
		for _, s := range fullSets(n) {
			checkTwo(t, s)
		}
	}
	for k := range 10 {
		s := []impl.Point{{X: -30}, {X: -28, Y: 1}, {X: -k - 1, Y: 50}, {X: k + 1, Y: 50}, {X: 28, Y: 1}, {X: 30}}
		want := min(5, (2*k+2)*(2*k+2))
		if least, ok := impl.NearestByHalves(s); least != want || !ok {
			t.Fatal("NearestByHalves", s, least, ok)
		}
		checkTwo(t, s)
	}
}

func TestPromise10NamedAcross(t *testing.T) {
	m := impl.MaxXY
	for _, c := range []struct {
		h    []impl.Point
		want [][]int
	}{
		// Of three all are across.
		{[]impl.Point{{}, {X: 1}, {Y: 1}}, [][]int{{0, 1}, {0, 2}, {1, 2}}},
		{[]impl.Point{{X: -m, Y: -m}, {X: m, Y: m - 1}, {X: m, Y: m}}, [][]int{{0, 1}, {0, 2}, {1, 2}}},
		{[]impl.Point{{X: -m, Y: m}, {X: m - 1, Y: 1 - m}, {X: m, Y: -m + 1}}, [][]int{{0, 1}, {0, 2}, {1, 2}}},
		// Four with no sides that run alike, with two, and with all.
		{[]impl.Point{{}, {X: 5, Y: -1}, {X: 20}, {X: 5, Y: 1}}, [][]int{{0, 2}, {1, 2}, {1, 3}, {2, 3}}},
		{[]impl.Point{{}, {X: 6}, {X: 5, Y: 3}, {X: 1, Y: 4}}, [][]int{{0, 1}, {0, 2}, {0, 3}, {1, 3}}},
		{[]impl.Point{{}, {X: 6}, {X: 4, Y: 2}, {X: 2, Y: 2}}, [][]int{{0, 1}, {0, 2}, {0, 3}, {1, 2}, {1, 3}}},
		{[]impl.Point{{}, {X: 2, Y: -2}, {X: 4, Y: -2}, {X: 6}}, [][]int{{0, 1}, {0, 2}, {0, 3}, {1, 3}, {2, 3}}},
		{squareHull(), [][]int{{0, 1}, {0, 2}, {0, 3}, {1, 2}, {1, 3}, {2, 3}}},
		{widest(), [][]int{{0, 1}, {0, 2}, {0, 3}, {1, 2}, {1, 3}, {2, 3}}},
		{[]impl.Point{{}, {X: 5, Y: 1}, {X: 6, Y: 3}, {X: 1, Y: 2}}, [][]int{{0, 1}, {0, 2}, {0, 3}, {1, 2}, {1, 3}, {2, 3}}},
		// Five, and six each two of whose sides run alike.
		{[]impl.Point{{X: -2}, {X: -1, Y: -2}, {X: 1, Y: -2}, {X: 2}, {Y: 2}}, [][]int{{0, 2}, {0, 3}, {1, 3}, {1, 4}, {2, 4}}},
		{[]impl.Point{{Y: 1}, {X: 1}, {X: 2}, {X: 2, Y: 1}, {X: 1, Y: 2}, {Y: 2}}, [][]int{{0, 2}, {0, 3}, {0, 4}, {1, 3}, {1, 4}, {1, 5}, {2, 4}, {2, 5}, {3, 5}}},
	} {
		if pairs := checkAcross(t, c.h); !samePairs(pairs, c.want) {
			t.Error("AcrossOf", c.h, pairs)
		}
		checkDifferences(t, c.h)
	}
}

// Hulls of many points, up to MaxPoints: on a curve, where all are across its ends, and round about, where each stands across some.
func TestPromise10FullHulls(t *testing.T) {
	for _, h := range fullHulls() {
		if len(h) != impl.MaxPoints {
			t.Fatal("not full", h)
		}
		checkAcross(t, h)
		checkTwo(t, ordered(h))
	}
	for n := 3; n <= impl.MaxPoints; n++ {
		h := bowl(n)
		pairs := checkAcross(t, h)
		for k := 1; k < n-1; k++ {
			if !slices.ContainsFunc(pairs, func(l []int) bool { return l[0] == 0 && l[1] == k || l[0] == k && l[1] == n-1 }) {
				t.Fatal("across no end of the curve", h, pairs, k)
			}
		}
		if n%2 == 0 && n >= 6 {
			checkAcross(t, eyeRound(n))
		}
	}
	if pairs := checkAcross(t, wheel()); len(pairs) != impl.MaxPoints*3/2 {
		t.Error("AcrossOf the wheel", len(pairs))
	}
	if pairs := checkAcross(t, bowl(impl.MaxPoints)); len(pairs) < impl.MaxPoints {
		t.Error("AcrossOf the bowl", len(pairs))
	}
}

func TestPromise10NamedNeighbours(t *testing.T) {
	m := impl.MaxXY
	cross := []impl.Point{{X: -2}, {Y: -2}, {Y: 2}, {X: 2}}
	for _, c := range []struct {
		s       []impl.Point
		q, want impl.Point
	}{
		{[]impl.Point{{X: 3, Y: 4}}, impl.Point{}, impl.Point{X: 3, Y: 4}},
		{[]impl.Point{{X: m, Y: m}}, impl.Point{X: -m, Y: -m}, impl.Point{X: m, Y: m}},
		{[]impl.Point{{}}, impl.Point{}, impl.Point{}},
		// One of the set is the nearest to itself.
		{grid(7), impl.Point{X: 3, Y: 5}, impl.Point{X: 3, Y: 5}},
		{grid(7), impl.Point{}, impl.Point{}},
		{rightward(impl.MaxPoints, 0), impl.Point{X: 59}, impl.Point{X: 59}},
		// One that is as near to several: the least of them.
		{cross, impl.Point{}, impl.Point{X: -2}},
		{cross[1:], impl.Point{}, impl.Point{Y: -2}},
		{cross[2:], impl.Point{}, impl.Point{Y: 2}},
		{cross, impl.Point{X: 1, Y: 1}, impl.Point{Y: 2}},
		{cross, impl.Point{X: 1, Y: -1}, impl.Point{Y: -2}},
		{cross, impl.Point{X: 2, Y: 1}, impl.Point{X: 2}},
		{[]impl.Point{{Y: 5}, {X: 3, Y: 4}, {X: 5}}, impl.Point{}, impl.Point{Y: 5}},
		{[]impl.Point{{X: 3, Y: 4}, {X: 4, Y: -3}, {X: 4, Y: 3}}, impl.Point{}, impl.Point{X: 3, Y: 4}},
		{ordered(widest()), impl.Point{}, impl.Point{X: -m, Y: -m}},
		{ordered(widest()), impl.Point{X: 1}, impl.Point{X: m, Y: -m}},
		{ordered(widest()), impl.Point{Y: 1}, impl.Point{X: -m, Y: m}},
		{ordered(widest()), impl.Point{X: m, Y: m - 1}, impl.Point{X: m, Y: m}},
		{[]impl.Point{{X: -m, Y: m}, {X: m, Y: -m}}, impl.Point{X: m, Y: m}, impl.Point{X: -m, Y: m}},
		// Outside, beside the set.
		{grid(7), impl.Point{X: 9, Y: 3}, impl.Point{X: 6, Y: 3}},
		{grid(7), impl.Point{X: -9, Y: -4}, impl.Point{}},
		{rightward(5, 0), impl.Point{X: 2, Y: 70}, impl.Point{X: 2}},
		{line(4, 0, 0, impl.Point{Y: 2}), impl.Point{X: 8, Y: 3}, impl.Point{Y: 2}},
	} {
		if p, ok := impl.NextTo(c.s, c.q); p != c.want || !ok {
			t.Error("NextTo", c.s, c.q, p, ok)
		}
		checkAround(t, c.s, c.q)
	}
}

func TestPromise10NamedWithin(t *testing.T) {
	m := impl.MaxXY
	five := []impl.Point{{}, {Y: 5}, {X: 3, Y: 4}, {X: 5}, {X: 5, Y: 5}}
	for _, c := range []struct {
		s    []impl.Point
		q    impl.Point
		most int
		want []impl.Point
		ok   bool
	}{
		// Nothing but itself, or nothing.
		{five, impl.Point{}, 0, five[:1], true},
		{five, impl.Point{X: 5, Y: 5}, 0, five[4:], true},
		{five, impl.Point{X: 1}, 0, nil, true},
		{nil, impl.Point{}, 0, nil, true},
		{nil, impl.Point{X: m, Y: -m}, math.MaxInt, nil, true},
		{[]impl.Point{}, impl.Point{}, 7, nil, true},
		// Met exactly, and not.
		{five, impl.Point{}, 25, five[:4], true},
		{five, impl.Point{}, 24, five[:1], true},
		{five, impl.Point{}, 49, five[:4], true},
		{five, impl.Point{}, 50, five, true},
		{five, impl.Point{X: 4, Y: 4}, 2, []impl.Point{{X: 3, Y: 4}, {X: 5, Y: 5}}, true},
		{five, impl.Point{X: 4, Y: 4}, 1, five[2:3], true},
		{grid(3), impl.Point{X: 1, Y: 1}, 1, []impl.Point{{Y: 1}, {X: 1}, {X: 1, Y: 1}, {X: 1, Y: 2}, {X: 2, Y: 1}}, true},
		{grid(3), impl.Point{X: 1, Y: 1}, 2, grid(3), true},
		{rightward(impl.MaxPoints, 0), impl.Point{}, 59 * 59, rightward(impl.MaxPoints, 0), true},
		{rightward(impl.MaxPoints, 0), impl.Point{}, 59*59 - 1, rightward(impl.MaxPoints-1, 0), true},
		{bowl(impl.MaxPoints), impl.Point{X: 1, Y: 1}, math.MaxInt, bowl(impl.MaxPoints), true},
		// The greatest there is.
		{ordered(widest()), impl.Point{X: -m, Y: -m}, 8 * m * m, ordered(widest()), true},
		{ordered(widest()), impl.Point{X: -m, Y: -m}, 8*m*m - 1, ordered(widest())[:3], true},
		{ordered(widest()), impl.Point{X: -m, Y: -m}, 4 * m * m, ordered(widest())[:3], true},
		{ordered(widest()), impl.Point{X: -m, Y: -m}, 4*m*m - 1, ordered(widest())[:1], true},
		{ordered(widest()), impl.Point{}, 2 * m * m, ordered(widest()), true},
		{ordered(widest()), impl.Point{}, 2*m*m - 1, nil, true},
		// Below 0, or no good point.
		{five, impl.Point{}, -1, nil, false},
		{five, impl.Point{}, math.MinInt, nil, false},
		{nil, impl.Point{}, -1, nil, false},
		{five, impl.Point{X: m + 1}, 8 * m * m, nil, false},
		{nil, impl.Point{Y: -m - 1}, 0, nil, false},
	} {
		if l, ok := impl.WithinOf(c.s, c.q, c.most); ok != c.ok || !slices.Equal(l, c.want) {
			t.Error("WithinOf", c.s, c.q, c.most, l, ok)
		}
	}
}

// What is near and far is so where all is moved, turned or grown, and only the order of the set says which of several comes first.
func TestPromise10OtherSets(t *testing.T) {
	n := numbers{state: 101}
	for range 600 {
		s, by := someSet(&n, []int{3, 8, 1000}[n.word()%3]), n.point(1000)
		if len(s) < 2 {
			continue
		}
		var great []impl.Point
		for _, p := range s {
			great = append(great, grown(p, -990, by))
		}
		great = ordered(great)
		turned, _ := impl.TurnSet(s)
		least, _ := impl.NearestByHalves(s)
		one, _ := impl.NearestByHalves(turned)
		two, ok := impl.NearestByHalves(great)
		if least != one || two != 990*990*least || !ok {
			t.Fatal("NearestByHalves turned and grown", s, by, least, one, two)
		}
		a, b, _ := impl.FarthestOf(s)
		c, d, _ := impl.FarthestOf(turned)
		e, f, ok := impl.FarthestOf(great)
		if apart(a, b) != apart(c, d) || apart(e, f) != 990*990*apart(a, b) || !ok {
			t.Fatal("FarthestOf turned and grown", s, by, a, b, c, d, e, f)
		}
		a, b, _ = impl.NearestOf(s)
		c, d, ok = impl.NearestOf(shifted(s, by))
		if c != grown(a, 1, by) || d != grown(b, 1, by) || !ok {
			t.Fatal("NearestOf moved", s, by, a, b, c, d)
		}
	}
}

// checkNoPairs asks that nothing is told of what is no set, nor of fewer points than there are to be.
func checkNoPairs(t *testing.T, s []impl.Point, q impl.Point) {
	t.Helper()
	if a, b, ok := impl.NearestOf(s); a != (impl.Point{}) || b != (impl.Point{}) || ok {
		t.Error("NearestOf", s, a, b, ok)
	}
	if a, b, ok := impl.FarthestOf(s); a != (impl.Point{}) || b != (impl.Point{}) || ok {
		t.Error("FarthestOf", s, a, b, ok)
	}
	if n, ok := impl.NearestByHalves(s); n != 0 || ok {
		t.Error("NearestByHalves", s, n, ok)
	}
	if len(s) == 1 && impl.GoodSet(s) {
		return
	}
	if p, ok := impl.NextTo(s, q); p != (impl.Point{}) || ok {
		t.Error("NextTo", s, q, p, ok)
	}
	if len(s) == 0 {
		return
	}
	for _, most := range []int{0, 1, 8 * impl.MaxXY * impl.MaxXY, math.MaxInt} {
		if l, ok := impl.WithinOf(s, q, most); l != nil || ok {
			t.Error("WithinOf", s, q, most, l, ok)
		}
	}
}

func TestPromise10NoSets(t *testing.T) {
	m := impl.MaxXY
	for _, s := range [][]impl.Point{
		// Too few.
		nil, {}, {{}}, {{X: -m, Y: m}}, {{X: 7, Y: 8}},
		// Not good.
		{{X: 1}, {}}, {{}, {}}, {{Y: 1}, {}}, {{X: m + 1}}, {{Y: -m - 1}}, {{}, {X: 2, Y: m + 1}}, {{X: -m - 1}, {}}, {{X: 2}, {X: 2}, {X: 3}},
		squareHull(), reversed(grid(4)), append(grid(4), impl.Point{}), rightward(impl.MaxPoints+1, 0), bowl(impl.MaxPoints + 1), grid(8),
		{{X: math.MinInt, Y: math.MinInt}, {X: math.MaxInt, Y: math.MaxInt}}, {{X: math.MinInt}, {}, {X: 1}},
	} {
		for _, q := range append(slices.Clone(s), impl.Point{}, impl.Point{X: 2, Y: 2}) {
			checkNoPairs(t, s, q)
		}
	}
}

func TestPromise10NoHulls(t *testing.T) {
	for _, h := range append(notHulls(), nil, []impl.Point{}, []impl.Point{{}}, []impl.Point{{}, {X: 1}}, []impl.Point{{X: -3, Y: 4}, {X: -3, Y: 5}}, grid(3), ordered(widest())) {
		if pairs, ok := impl.AcrossOf(h); pairs != nil || ok {
			t.Error("AcrossOf", h, pairs, ok)
		}
	}
	for _, h := range append(fullHulls(), squareHull(), widest(), squareHull()[:3]) {
		for k := 1; k < len(h); k++ {
			if pairs, ok := impl.AcrossOf(startAt(h, k)); pairs != nil || ok {
				t.Error("AcrossOf a hull from another corner on", h, k, pairs, ok)
			}
		}
		if pairs, ok := impl.AcrossOf(reversed(h)); pairs != nil || ok {
			t.Error("AcrossOf a hull to the right round", h, pairs, ok)
		}
	}
}

func TestPromise10NoPoints(t *testing.T) {
	m := impl.MaxXY
	for _, q := range []impl.Point{{X: m + 1}, {X: -m - 1}, {Y: m + 1}, {Y: -m - 1}, {X: m, Y: m + 1}, {X: math.MinInt, Y: math.MinInt}, {X: math.MaxInt}, {Y: math.MinInt}, {X: math.MaxInt, Y: math.MaxInt}} {
		for _, p := range []impl.Point{{}, {X: m, Y: m}, q} {
			one, first := impl.ApartOf(p, q)
			two, second := impl.ApartOf(q, p)
			if one != 0 || two != 0 || first || second {
				t.Error("ApartOf", p, q, one, two, first, second)
			}
		}
		for _, s := range [][]impl.Point{nil, {{X: m, Y: m}}, grid(4), ordered(widest())} {
			if p, ok := impl.NextTo(s, q); p != (impl.Point{}) || ok {
				t.Error("NextTo", s, q, p, ok)
			}
			if l, ok := impl.WithinOf(s, q, math.MaxInt); l != nil || ok {
				t.Error("WithinOf", s, q, l, ok)
			}
		}
	}
}
