package tests

import (
	"math"
	"slices"
	"testing"

	"loop.example/g00780/impl"
)

func squareHull() []impl.Point {
	return []impl.Point{{X: 0, Y: 0}, {X: 4, Y: 0}, {X: 4, Y: 4}, {X: 0, Y: 4}}
}

// widest has the hull of all good points.
func widest() []impl.Point {
	m := impl.MaxXY
	return []impl.Point{{X: -m, Y: -m}, {X: m, Y: -m}, {X: m, Y: m}, {X: -m, Y: m}}
}

func TestPromise5AllSmallHulls(t *testing.T) {
	square := grid(4)
	hulls := 0
	for k := range 1 << len(square) {
		s := subset(square, k)
		h, _ := modelHull(s)
		if len(h) < len(s) || len(h) == 0 {
			continue
		}
		hulls++
		for _, d := range directions() {
			checkFarthest(t, s, d)
		}
		for _, q := range around(4) {
			checkLook(t, s, q)
		}
	}
	if hulls < 600 {
		t.Fatal("few hulls", hulls)
	}
}

// The points that are no corners are not farther, either, and between the tangents, too.
func TestPromise5AllSmallSets(t *testing.T) {
	square := grid(3)
	for k := 1; k < 1<<len(square); k++ {
		s := subset(square, k)
		for _, d := range directions() {
			checkFarthest(t, s, d)
		}
		for _, q := range around(3) {
			checkLook(t, s, q)
		}
	}
}

func TestPromise5ManySets(t *testing.T) {
	n := numbers{state: 50}
	for range 400 {
		most := []int{1, 3, 9, 1000, impl.MaxXY}[n.word()%5]
		s := someSet(&n, most)
		if len(s) == 0 {
			continue
		}
		h, _ := modelHull(s)
		for k, p := range h {
			next := h[(k+1)%len(h)]
			// Across a side both of its ends are as far, where the direction is good.
			for _, d := range []impl.Point{{X: next.Y - p.Y, Y: p.X - next.X}, {X: p.Y - next.Y, Y: next.X - p.X}, p, n.point(most)} {
				if (d.X != 0 || d.Y != 0) && allWithin(impl.MaxXY, d) {
					checkFarthest(t, s, d)
				}
			}
		}
		for range 10 {
			checkLook(t, s, n.point(most))
			checkLook(t, s, n.point(impl.MaxXY))
		}
		if len(h) < 12 {
			for _, q := range near(h) {
				checkLook(t, s, q)
			}
		}
	}
}

func TestPromise5NamedExtremes(t *testing.T) {
	m := impl.MaxXY
	square, all, full := squareHull(), widest(), bowl(impl.MaxPoints)
	slanting := []impl.Point{{X: 0, Y: 0}, {X: 3, Y: 1}, {X: 2, Y: 4}, {X: -1, Y: 3}}
	slanting = startAt(slanting, 3)
	for _, c := range []struct {
		h    []impl.Point
		d    impl.Point
		p    impl.Point
		most int
	}{
		// One point is the farthest one, whatever the direction.
		{square[2:3], impl.Point{X: 1}, square[2], 4}, {square[2:3], impl.Point{X: -1, Y: -1}, square[2], -8}, {[]impl.Point{{}}, impl.Point{X: m, Y: -m}, impl.Point{}, 0},
		// Two points: along them, across them, and slanting.
		{square[:2], impl.Point{X: 1}, square[1], 4}, {square[:2], impl.Point{X: -1}, square[0], 0},
		{square[:2], impl.Point{Y: 1}, square[0], 0}, {square[:2], impl.Point{Y: -1}, square[0], 0}, {square[:2], impl.Point{X: 1, Y: 9}, square[1], 4},
		{[]impl.Point{{X: 0, Y: 5}, {X: 0, Y: 7}}, impl.Point{X: 1}, impl.Point{X: 0, Y: 5}, 0},
		{[]impl.Point{{X: 0, Y: 5}, {X: 0, Y: 7}}, impl.Point{X: -1}, impl.Point{X: 0, Y: 5}, 0},
		{[]impl.Point{{X: -3, Y: 5}, {X: 1, Y: 1}}, impl.Point{X: 1, Y: 1}, impl.Point{X: -3, Y: 5}, 2},
		// Two corners are as far: level and upright directions, and of the two the least.
		{square, impl.Point{X: 1}, square[1], 4}, {square, impl.Point{X: -1}, square[0], 0}, {square, impl.Point{Y: 1}, square[3], 4}, {square, impl.Point{Y: -1}, square[0], 0},
		{square, impl.Point{X: 7}, square[1], 28}, {square, impl.Point{Y: 7}, square[3], 28},
		// Slanting ones, to each corner.
		{square, impl.Point{X: 1, Y: 2}, square[2], 12}, {square, impl.Point{X: -1, Y: 2}, square[3], 8}, {square, impl.Point{X: -3, Y: -1}, square[0], 0}, {square, impl.Point{X: 2, Y: -1}, square[1], 8},
		// Slanting ones across a slanting side.
		{slanting, impl.Point{X: 1, Y: -3}, impl.Point{X: 0, Y: 0}, 0}, {slanting, impl.Point{X: 3, Y: 1}, impl.Point{X: 2, Y: 4}, 10},
		{slanting, impl.Point{X: -1, Y: 3}, impl.Point{X: -1, Y: 3}, 10}, {slanting, impl.Point{X: -3, Y: -1}, impl.Point{X: -1, Y: 3}, 0},
		// The greatest numbers.
		{all, impl.Point{X: m, Y: m}, all[2], 2 * m * m}, {all, impl.Point{X: -m, Y: -m}, all[0], 2 * m * m}, {all, impl.Point{X: m, Y: -m}, all[1], 2 * m * m},
		{all, impl.Point{X: -m, Y: m}, all[3], 2 * m * m}, {all, impl.Point{X: m}, all[1], m * m}, {all, impl.Point{Y: m}, all[3], m * m},
		{all[:1], impl.Point{X: m, Y: m}, all[0], -2 * m * m}, {all[:2], impl.Point{X: -1, Y: m}, all[0], m - m*m},
		// As many points as there can be.
		{full, impl.Point{Y: -1}, impl.Point{}, 0}, {full, impl.Point{Y: 1}, full[0], 900}, {full, impl.Point{X: 1}, full[59], 29},
		{full, impl.Point{X: 1, Y: -1}, impl.Point{X: 0, Y: 0}, 0}, {full, impl.Point{X: 20, Y: -1}, impl.Point{X: 10, Y: 100}, 100}, {full, impl.Point{X: -3, Y: -1}, impl.Point{X: -2, Y: 4}, 2},
		{full, impl.Point{X: 57, Y: -1}, impl.Point{X: 28, Y: 784}, 812}, {full, impl.Point{X: 58, Y: -1}, full[59], 841},
	} {
		if p, ok := impl.ExtremeOf(c.h, c.d); p != c.p || !ok {
			t.Error("ExtremeOf", c.h, c.d, p, ok)
		}
		if most, ok := impl.SupportOf(c.h, c.d); most != c.most || !ok {
			t.Error("SupportOf", c.h, c.d, most, ok)
		}
	}
}

func TestPromise5NoExtremes(t *testing.T) {
	m := impl.MaxXY
	for _, h := range [][]impl.Point{squareHull()[:1], squareHull()[:2], squareHull(), widest(), bowl(impl.MaxPoints)} {
		for _, d := range []impl.Point{{}, {X: m + 1}, {X: -m - 1}, {Y: m + 1}, {Y: -m - 1}, {X: 1, Y: m + 1}, {X: math.MinInt, Y: math.MaxInt}} {
			checkNoExtreme(t, h, d)
		}
	}
	for _, d := range directions() {
		checkNoExtreme(t, nil, d)
		checkNoExtreme(t, []impl.Point{}, d)
		for _, h := range notHulls() {
			checkNoExtreme(t, h, d)
		}
	}
}

func checkNoExtreme(t *testing.T, h []impl.Point, d impl.Point) {
	t.Helper()
	if p, ok := impl.ExtremeOf(h, d); p != (impl.Point{}) || ok {
		t.Error("ExtremeOf", h, d, p, ok)
	}
	if most, ok := impl.SupportOf(h, d); most != 0 || ok {
		t.Error("SupportOf", h, d, most, ok)
	}
}

func TestPromise5NamedTangents(t *testing.T) {
	m := impl.MaxXY
	square, all, full := squareHull(), widest(), bowl(impl.MaxPoints)
	two := []impl.Point{{X: 0, Y: 0}, {X: 6, Y: 4}}
	for _, c := range []struct {
		h           []impl.Point
		q           impl.Point
		right, left impl.Point
	}{
		// One point is both.
		{two[1:], impl.Point{}, two[1], two[1]}, {two[1:], impl.Point{X: m, Y: m}, two[1], two[1]}, {two[1:], impl.Point{X: 6, Y: 5}, two[1], two[1]},
		// Two points, from one side, from the other one, and in line with them on either side.
		{two, impl.Point{X: 3, Y: 0}, two[1], two[0]}, {two, impl.Point{X: 3, Y: 4}, two[0], two[1]},
		{two, impl.Point{X: 9, Y: 6}, two[1], two[1]}, {two, impl.Point{X: -3, Y: -2}, two[0], two[0]},
		{square[:2], impl.Point{X: 5}, square[1], square[1]}, {square[:2], impl.Point{X: -m}, square[0], square[0]},
		{[]impl.Point{{X: 2, Y: 1}, {X: 2, Y: 3}}, impl.Point{X: 2, Y: 4}, impl.Point{X: 2, Y: 3}, impl.Point{X: 2, Y: 3}},
		{[]impl.Point{{X: 2, Y: 1}, {X: 2, Y: 3}}, impl.Point{X: 2, Y: 0}, impl.Point{X: 2, Y: 1}, impl.Point{X: 2, Y: 1}},
		// On the line of a side, beyond it: each of the sides, on either end.
		{square, impl.Point{X: 8, Y: 0}, square[2], square[1]}, {square, impl.Point{X: -1, Y: 0}, square[0], square[3]},
		{square, impl.Point{X: 4, Y: -1}, square[1], square[0]}, {square, impl.Point{X: 4, Y: 9}, square[3], square[2]},
		{square, impl.Point{X: 5, Y: 4}, square[2], square[1]}, {square, impl.Point{X: -4, Y: 4}, square[0], square[3]},
		{square, impl.Point{X: 0, Y: -2}, square[1], square[0]}, {square, impl.Point{X: 0, Y: 5}, square[3], square[2]},
		{square[:3], impl.Point{X: 6, Y: 6}, square[2], square[1]}, {square[:3], impl.Point{X: -1, Y: -1}, square[1], square[0]},
		// One side is seen.
		{square, impl.Point{X: 2, Y: -1}, square[1], square[0]}, {square, impl.Point{X: 5, Y: 2}, square[2], square[1]},
		{square, impl.Point{X: 2, Y: 5}, square[3], square[2]}, {square, impl.Point{X: -1, Y: 2}, square[0], square[3]},
		// Two are.
		{square, impl.Point{X: 5, Y: 5}, square[3], square[1]}, {square, impl.Point{X: -1, Y: -1}, square[1], square[3]},
		{square, impl.Point{X: 5, Y: -1}, square[2], square[0]}, {square, impl.Point{X: -1, Y: 5}, square[0], square[2]},
		{square, impl.Point{X: m, Y: m}, square[3], square[1]},
		// Many are.
		{full, impl.Point{X: 0, Y: -m}, full[59], full[0]}, {full, impl.Point{X: 0, Y: -1}, impl.Point{X: 1, Y: 1}, impl.Point{X: -1, Y: 1}},
		{full, impl.Point{X: 0, Y: -100}, impl.Point{X: 10, Y: 100}, impl.Point{X: -10, Y: 100}}, {full, impl.Point{X: 0, Y: m}, full[0], full[59]},
		// In line with one of many sides on either tangent.
		{full, impl.Point{X: -1, Y: -1}, impl.Point{X: 0, Y: 0}, impl.Point{X: -2, Y: 4}}, {full, impl.Point{X: 0, Y: -2}, impl.Point{X: 1, Y: 1}, impl.Point{X: -1, Y: 1}},
		// The longest ways.
		{all[:2], impl.Point{X: m, Y: m}, all[0], all[1]}, {all[:3], impl.Point{X: -m, Y: m}, all[0], all[2]}, {all[:1], impl.Point{X: m, Y: m}, all[0], all[0]},
		{[]impl.Point{all[0], {}}, impl.Point{X: m, Y: m}, impl.Point{}, impl.Point{}}, {[]impl.Point{all[0], {X: 1}}, impl.Point{X: m, Y: m}, all[0], impl.Point{X: 1}},
	} {
		first, second, is := modelTangents(c.h, c.q)
		if !is || first != c.right || second != c.left {
			t.Error("the model of TangentsFrom", c.h, c.q, first, second, is)
		}
		a, b, ok := impl.TangentsFrom(c.h, c.q)
		if a != c.right || b != c.left || !ok {
			t.Error("TangentsFrom", c.h, c.q, a, b, ok)
		}
		for _, p := range []impl.Point{c.right, c.left} {
			if is, ok := impl.IsTangent(c.h, c.q, p); !is || !ok {
				t.Error("IsTangent of one of both", c.h, c.q, p, is, ok)
			}
		}
		checkTangents(t, ordered(c.h), c.q)
	}
}

func TestPromise5NamedIsTangent(t *testing.T) {
	m := impl.MaxXY
	square, full := squareHull(), bowl(impl.MaxPoints)
	for _, c := range []struct {
		h      []impl.Point
		q, p   impl.Point
		is, ok bool
	}{
		{square[:1], square[1], square[0], true, true}, {square[:2], square[2], square[0], true, true}, {square[:2], square[2], square[1], true, true},
		{square[:2], impl.Point{X: 9}, square[0], true, true}, {square[:2], impl.Point{X: 9}, square[1], true, true},
		// Both, the farther one in line with one of them, and one that is neither.
		{square, impl.Point{X: 8}, square[2], true, true}, {square, impl.Point{X: 8}, square[1], true, true}, {square, impl.Point{X: 8}, square[0], true, true}, {square, impl.Point{X: 8}, square[3], false, true},
		{square, impl.Point{X: 8, Y: 4}, square[2], true, true}, {square, impl.Point{X: 8, Y: 4}, square[3], true, true}, {square, impl.Point{X: 8, Y: 4}, square[1], true, true}, {square, impl.Point{X: 8, Y: 4}, square[0], false, true},
		{square, impl.Point{X: 5, Y: 5}, square[2], false, true}, {square, impl.Point{X: 5, Y: 5}, square[0], false, true},
		{square, impl.Point{X: 5, Y: 1}, square[0], false, true}, {square, impl.Point{X: 5, Y: 1}, square[3], false, true},
		{full, impl.Point{Y: -1}, impl.Point{}, false, true}, {full, impl.Point{Y: -1}, full[59], false, true}, {full, impl.Point{Y: -1}, impl.Point{X: -1, Y: 1}, true, true},
		// No points of the hull, though they are on its rim, inside, or not good.
		{square, impl.Point{X: 8}, impl.Point{X: 2}, false, false}, {square, impl.Point{X: 8}, impl.Point{X: 4, Y: 2}, false, false}, {square, impl.Point{X: 8}, impl.Point{X: 1, Y: 1}, false, false},
		{square, impl.Point{X: 8}, impl.Point{X: 8}, false, false}, {square, impl.Point{X: 8}, impl.Point{X: 6}, false, false}, {square, impl.Point{X: 8}, impl.Point{X: m + 1}, false, false},
		{nil, impl.Point{X: 8}, impl.Point{X: 8}, false, false}, {nil, impl.Point{X: 8}, impl.Point{}, false, false}, {square[1:2], impl.Point{}, impl.Point{}, false, false},
	} {
		if is, ok := impl.IsTangent(c.h, c.q, c.p); is != c.is || ok != c.ok {
			t.Error("IsTangent", c.h, c.q, c.p, is, ok)
		}
	}
}

func TestPromise5NoTangents(t *testing.T) {
	m := impl.MaxXY
	square, full := squareHull(), bowl(impl.MaxPoints)
	for _, c := range []struct {
		h []impl.Point
		l []impl.Point
	}{
		{nil, []impl.Point{{}, {X: m, Y: m}}},
		{square[:1], square[:1]}, {square[:2], []impl.Point{square[0], square[1], {X: 2}}},
		{square, append(square, impl.Point{X: 1, Y: 1}, impl.Point{X: 2}, impl.Point{Y: 3}, impl.Point{X: 4, Y: 1}, impl.Point{X: 3, Y: 4})},
		{square[:3], []impl.Point{{X: 1, Y: 1}, {X: 3, Y: 2}}}, {full, append(full, impl.Point{Y: 1}, impl.Point{Y: 800})}, {widest(), append(around(2), widest()...)},
	} {
		for _, q := range append(c.l, impl.Point{X: m + 1}, impl.Point{Y: -m - 1}, impl.Point{X: math.MaxInt, Y: math.MinInt}) {
			checkNoTangents(t, c.h, q)
		}
	}
	for _, h := range notHulls() {
		for _, q := range []impl.Point{{X: -7, Y: -9}, {X: 900}, {X: -m, Y: m}, h[0]} {
			checkNoTangents(t, h, q)
		}
	}
}

func checkNoTangents(t *testing.T, h []impl.Point, q impl.Point) {
	t.Helper()
	if a, b, ok := impl.TangentsFrom(h, q); a != (impl.Point{}) || b != (impl.Point{}) || ok {
		t.Error("TangentsFrom", h, q, a, b, ok)
	}
	for _, p := range append(slices.Clone(h), impl.Point{}, q) {
		if is, ok := impl.IsTangent(h, q, p); is || ok {
			t.Error("IsTangent", h, q, p, is, ok)
		}
	}
}

func TestPromise5NamedSees(t *testing.T) {
	m := impl.MaxXY
	square, full := squareHull(), bowl(impl.MaxPoints)
	var upTo59 []int
	for k := range 59 {
		upTo59 = append(upTo59, k)
	}
	for _, c := range []struct {
		h    []impl.Point
		q    impl.Point
		want []int
		ok   bool
	}{
		// Inside, on a side and at a corner.
		{square, impl.Point{X: 1, Y: 3}, nil, true}, {square, impl.Point{X: 1}, nil, true}, {square, impl.Point{X: 4, Y: 3}, nil, true}, {square, impl.Point{Y: 3}, nil, true},
		{square, square[0], nil, true}, {square, square[2], nil, true}, {full, full[7], nil, true}, {full, impl.Point{Y: 1}, nil, true},
		// On the line of a side, beyond it.
		{square, impl.Point{X: 8}, []int{1}, true}, {square, impl.Point{X: -8}, []int{3}, true}, {square, impl.Point{X: 4, Y: -1}, []int{0}, true}, {square, impl.Point{X: 4, Y: 5}, []int{2}, true},
		{square[:3], impl.Point{X: -1, Y: -1}, []int{0}, true}, {square[:3], impl.Point{X: 5, Y: 5}, []int{1}, true},
		// One side each.
		{square, impl.Point{X: 1, Y: -1}, []int{0}, true}, {square, impl.Point{X: 5, Y: 1}, []int{1}, true}, {square, impl.Point{X: 1, Y: 5}, []int{2}, true}, {square, impl.Point{X: -1, Y: 1}, []int{3}, true},
		// Two, the last and the first one among them.
		{square, impl.Point{X: 5, Y: -1}, []int{0, 1}, true}, {square, impl.Point{X: 5, Y: 5}, []int{1, 2}, true}, {square, impl.Point{X: -1, Y: 5}, []int{2, 3}, true}, {square, impl.Point{X: -1, Y: -1}, []int{0, 3}, true},
		// All but one, and the other one alone.
		{full, impl.Point{Y: -m}, upTo59, true}, {full, impl.Point{Y: m}, []int{59}, true}, {full, impl.Point{Y: -1}, []int{29, 30}, true},
		// Too few points, and points that are not good.
		{nil, impl.Point{}, nil, false}, {square[:1], impl.Point{X: 8}, nil, false}, {square[:2], impl.Point{Y: -8}, nil, false}, {square[:2], impl.Point{Y: 8}, nil, false},
		{square, impl.Point{X: m + 1}, nil, false}, {square, impl.Point{Y: -m - 1}, nil, false}, {square, impl.Point{X: math.MinInt, Y: math.MinInt}, nil, false},
	} {
		if seen, ok := impl.SeesFrom(c.h, c.q); !slices.Equal(seen, c.want) || ok != c.ok {
			t.Error("SeesFrom", c.h, c.q, seen, ok)
		}
	}
	for _, h := range notHulls() {
		for _, q := range []impl.Point{{X: -7, Y: -9}, {X: 1, Y: 1}, {X: 900}, {X: -m, Y: m}} {
			if seen, ok := impl.SeesFrom(h, q); len(seen) != 0 || ok {
				t.Error("SeesFrom no hull", h, q, seen, ok)
			}
		}
	}
}

func TestPromise5NamedPuts(t *testing.T) {
	m := impl.MaxXY
	a, b, c, d := impl.Point{X: 0, Y: 0}, impl.Point{X: 4, Y: 0}, impl.Point{X: 4, Y: 4}, impl.Point{X: 0, Y: 4}
	square := []impl.Point{a, b, c, d}
	for _, k := range []struct {
		h    []impl.Point
		q    impl.Point
		want []impl.Point
	}{
		{nil, c, []impl.Point{c}}, {[]impl.Point{}, impl.Point{X: -m, Y: m}, []impl.Point{{X: -m, Y: m}}},
		{[]impl.Point{b}, b, []impl.Point{b}}, {[]impl.Point{b}, a, []impl.Point{a, b}}, {[]impl.Point{a}, b, []impl.Point{a, b}},
		{[]impl.Point{a, c}, impl.Point{X: 2, Y: 2}, []impl.Point{a, c}}, {[]impl.Point{a, c}, c, []impl.Point{a, c}}, {[]impl.Point{a, c}, a, []impl.Point{a, c}},
		{[]impl.Point{a, c}, impl.Point{X: 5, Y: 5}, []impl.Point{a, {X: 5, Y: 5}}}, {[]impl.Point{a, c}, impl.Point{X: -5, Y: -5}, []impl.Point{{X: -5, Y: -5}, c}},
		{[]impl.Point{a, c}, b, []impl.Point{a, b, c}}, {[]impl.Point{a, c}, d, []impl.Point{a, c, d}},
		// Inside, on the rim, at a corner.
		{square, impl.Point{X: 1, Y: 2}, square}, {square, impl.Point{X: 1}, square}, {square, impl.Point{Y: 3}, square}, {square, a, square}, {square, c, square},
		// Outside: beside one side, behind a corner, and as the new first point.
		{square, impl.Point{X: 5, Y: 2}, []impl.Point{a, b, {X: 5, Y: 2}, c, d}}, {square, impl.Point{X: 2, Y: -1}, []impl.Point{a, {X: 2, Y: -1}, b, c, d}},
		{square, impl.Point{X: 2, Y: 9}, []impl.Point{a, b, c, {X: 2, Y: 9}, d}}, {square, impl.Point{X: -1, Y: 2}, []impl.Point{{X: -1, Y: 2}, a, b, c, d}},
		{square, impl.Point{X: 5, Y: 5}, []impl.Point{a, b, {X: 5, Y: 5}, d}}, {square, impl.Point{X: -1, Y: -1}, []impl.Point{{X: -1, Y: -1}, b, c, d}},
		// In line with a side.
		{square, impl.Point{X: 8}, []impl.Point{a, {X: 8}, c, d}}, {square, impl.Point{X: -8}, []impl.Point{{X: -8}, b, c, d}}, {square, impl.Point{X: 4, Y: -8}, []impl.Point{a, {X: 4, Y: -8}, c, d}},
		{square, impl.Point{Y: 8}, []impl.Point{a, b, c, {Y: 8}}}, {square, impl.Point{Y: -8}, []impl.Point{{Y: -8}, b, c, d}}, {[]impl.Point{a, b, c}, impl.Point{X: -1, Y: -1}, []impl.Point{{X: -1, Y: -1}, b, c}},
		// One corner is put away, and three.
		{[]impl.Point{a, b, {X: 6, Y: 2}, c, d}, impl.Point{X: 9, Y: 2}, []impl.Point{a, b, {X: 9, Y: 2}, c, d}},
		{[]impl.Point{a, b, {X: 6, Y: 2}, c, d}, impl.Point{X: m, Y: 2}, []impl.Point{a, b, {X: m, Y: 2}, c, d}},
		{[]impl.Point{a, {X: 2, Y: -1}, b, {X: 5, Y: 2}, c, d}, impl.Point{X: 20, Y: -11}, []impl.Point{a, {X: 20, Y: -11}, c, d}},
		{widest(), impl.Point{}, widest()}, {widest(), impl.Point{X: m, Y: m}, widest()}, {widest()[:3], impl.Point{X: -m, Y: m}, widest()},
	} {
		if g, ok := impl.PutOutside(k.h, k.q); !slices.Equal(g, k.want) || !ok {
			t.Error("PutOutside", k.h, k.q, g, ok)
		}
		checkPut(t, k.h, k.q)
	}
}

func TestPromise5PutsIntoFullHulls(t *testing.T) {
	m := impl.MaxXY
	full := bowl(impl.MaxPoints)
	last := full[impl.MaxPoints-1]
	less := impl.Point{X: 0, Y: -1}
	for _, c := range []struct {
		q    impl.Point
		want []impl.Point
		ok   bool
	}{
		// Inside, on the rim and at a corner nothing changes.
		{impl.Point{X: 0, Y: 1}, full, true}, {impl.Point{X: 3, Y: 500}, full, true}, {impl.Point{X: -30 + 29, Y: 900 - 29}, full, true}, {full[0], full, true}, {full[30], full, true}, {last, full, true},
		// Outside: a corner in the middle is put away, the last one by a point in line with its side, or nearly all are.
		{less, append(slices.Concat(full[:30], []impl.Point{less}), full[31:]...), true},
		{impl.Point{X: 30, Y: 898}, append(slices.Clone(full[:59]), impl.Point{X: 30, Y: 898}), true},
		{impl.Point{X: 0, Y: -m}, []impl.Point{full[0], {X: 0, Y: -m}, last}, true},
		// Outside, and no corner goes: there is one too many.
		{impl.Point{X: 30, Y: 900}, nil, false}, {impl.Point{X: 29, Y: 842}, nil, false}, {impl.Point{X: -31, Y: 961}, nil, false}, {impl.Point{X: 0, Y: m}, nil, false}, {impl.Point{X: -30, Y: 901}, nil, false},
		{impl.Point{X: m + 1}, nil, false}, {impl.Point{Y: -m - 1}, nil, false},
	} {
		if g, ok := impl.PutOutside(full, c.q); !slices.Equal(g, c.want) || ok != c.ok {
			t.Error("PutOutside", c.q, g, ok)
		}
		if allWithin(m, c.q) {
			checkPut(t, full, c.q)
		}
	}
	// With one point less there is room for one more.
	if g, ok := impl.PutOutside(full[:59], last); !slices.Equal(g, full) || !ok {
		t.Error("PutOutside into the last room", g, ok)
	}
	if g, ok := impl.PutOutside(full[1:], full[0]); !slices.Equal(g, full) || !ok {
		t.Error("PutOutside ahead of all", g, ok)
	}
}

func TestPromise5NoPuts(t *testing.T) {
	m := impl.MaxXY
	for _, h := range [][]impl.Point{nil, squareHull()[:1], squareHull()[:2], squareHull(), widest()} {
		for _, q := range []impl.Point{{X: m + 1}, {X: -m - 1}, {Y: m + 1}, {Y: -m - 1}, {X: math.MaxInt, Y: math.MinInt}} {
			if g, ok := impl.PutOutside(h, q); len(g) != 0 || ok {
				t.Error("PutOutside", h, q, g, ok)
			}
		}
	}
	for _, h := range notHulls() {
		for _, q := range []impl.Point{{}, {X: 2, Y: 2}, {X: -900, Y: -900}, h[0]} {
			if g, ok := impl.PutOutside(h, q); len(g) != 0 || ok {
				t.Error("PutOutside no hull", h, q, g, ok)
			}
		}
	}
}

// A hull is built by putting one point after another outside of it.
func TestPromise5PutsOneByOne(t *testing.T) {
	n := numbers{state: 51}
	for range 300 {
		most := []int{1, 3, 9, 1000, impl.MaxXY}[n.word()%5]
		s := someSet(&n, most)
		want, _ := impl.HullOf(s)
		var h []impl.Point
		for len(s) > 0 {
			k := int(n.word() % uint64(len(s)))
			g, ok := impl.PutOutside(h, s[k])
			if !ok {
				t.Fatal("PutOutside", h, s[k])
			}
			s, h = slices.Delete(s, k, k+1), g
		}
		if !slices.Equal(h, want) {
			t.Fatal("one by one", h, want)
		}
	}
}
