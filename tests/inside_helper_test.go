package tests

import (
	"slices"
	"testing"

	"loop.example/g00780/impl"
)

// The models say chapter 4 by the least of the cross products, and share nothing with the program.

func modelOnSegment(a, b, q impl.Point) (bool, bool) {
	if !allWithin(impl.MaxXY, a, b, q) {
		return false, false
	}
	return between(a, b, q), true
}

func modelInTriangle(a, b, c, q impl.Point) (int, bool) {
	if !allWithin(impl.MaxXY, a, b, c, q) || cross(a, b, c) <= 0 {
		return 0, false
	}
	return placeIn([]impl.Point{a, b, c}, q), true
}

// placeIn is asked of a ring that turns left throughout, or of fewer than three points: what is on no wrong side of it is in it, and there on the rim where it is in line with a side.
func placeIn(ring []impl.Point, q impl.Point) int {
	if len(ring) < 3 {
		if len(ring) > 0 && between(ring[0], ring[len(ring)-1], q) {
			return impl.WhRim
		}
		return impl.WhOut
	}
	least := cross(ring[len(ring)-1], ring[0], q)
	for i := 1; i < len(ring); i++ {
		least = min(least, cross(ring[i-1], ring[i], q))
	}
	switch {
	case least < 0:
		return impl.WhOut
	case least == 0:
		return impl.WhRim
	}
	return impl.WhIn
}

func modelWhere(h []impl.Point, q impl.Point) (int, bool) {
	if !modelGoodHull(h) || !allWithin(impl.MaxXY, q) {
		return 0, false
	}
	return placeIn(h, q), true
}

func modelRimAt(h []impl.Point, q impl.Point) (int, bool) {
	if !modelGoodHull(h) || !allWithin(impl.MaxXY, q) || len(h) < 2 {
		return 0, false
	}
	closed := append(slices.Clone(h), h[0])
	for k := range h {
		if between(closed[k], closed[k+1], q) {
			return k, true
		}
	}
	return 0, false
}

func modelInside(h, s []impl.Point) ([]impl.Point, bool) {
	if !modelGoodHull(h) || !modelGood(s) {
		return nil, false
	}
	return slices.DeleteFunc(slices.Clone(s), func(p impl.Point) bool { return placeIn(h, p) == impl.WhOut }), true
}

func modelCovers(g, h []impl.Point) (bool, bool) {
	if !modelGoodHull(g) || !modelGoodHull(h) {
		return false, false
	}
	return !slices.ContainsFunc(h, func(p impl.Point) bool { return placeIn(g, p) == impl.WhOut }), true
}

func modelFan(h []impl.Point) ([][]impl.Point, bool) {
	if !modelGoodHull(h) || len(h) < 3 {
		return nil, false
	}
	var fan [][]impl.Point
	for k := range len(h) - 2 {
		fan = append(fan, append([]impl.Point{h[0]}, h[k+1:k+3]...))
	}
	return fan, true
}

func sameLists(a, b [][]impl.Point) bool {
	return slices.EqualFunc(a, b, slices.Equal[[]impl.Point])
}

// checkFan holds promise 4 for a good hull of three points or more, and a good point.
func checkFan(t *testing.T, h []impl.Point, q impl.Point) {
	t.Helper()
	where, ok := impl.WhereIs(h, q)
	if !ok || where != placeIn(h, q) {
		t.Fatal("WhereIs", h, q, where, ok)
	}
	fan, ok := impl.FanOf(h)
	if want, _ := modelFan(h); !ok || !sameLists(fan, want) {
		t.Fatal("FanOf", h, fan, ok)
	}
	some := false
	for _, f := range fan {
		at, ok := impl.InTriangle(f[0], f[1], f[2], q)
		if !ok || at != placeIn(f, q) {
			t.Fatal("InTriangle", f, q, at, ok)
		}
		some = some || at != impl.WhOut
	}
	if some != (where != impl.WhOut) {
		t.Fatal("in the hull, but in no triangle of its fan, or the other way round", h, q, where)
	}
	checkRim(t, h, q, where)
}

// checkRim asks that RimAt tells of a rim where WhereIs does, and of the first of its segments.
func checkRim(t *testing.T, h []impl.Point, q impl.Point, where int) {
	t.Helper()
	k, ok := impl.RimAt(h, q)
	if ok != (where == impl.WhRim) {
		t.Fatal("RimAt", h, q, k, ok, where)
	}
	for i := range h {
		on, good := impl.OnSegment(h[i], h[(i+1)%len(h)], q)
		if !good || on && (!ok || i < k) || !on && ok && i == k {
			t.Fatal("RimAt and OnSegment", h, q, k, ok, i, on, good)
		}
	}
}

// near has each point of a ring, those beside it, and those between it and the others, as far as they are good.
func near(ring []impl.Point) []impl.Point {
	var l []impl.Point
	for _, p := range ring {
		for _, q := range grid(3) {
			l = append(l, impl.Point{X: p.X + q.X - 1, Y: p.Y + q.Y - 1})
		}
		for _, q := range ring {
			l = append(l, impl.Point{X: (p.X + q.X) / 2, Y: (p.Y + q.Y) / 2}, impl.Point{X: 2*q.X - p.X, Y: 2*q.Y - p.Y})
		}
	}
	return slices.DeleteFunc(ordered(l), func(p impl.Point) bool { return !allWithin(impl.MaxXY, p) })
}
