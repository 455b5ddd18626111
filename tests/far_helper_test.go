package tests

import (
	"slices"
	"testing"

	"loop.example/g00780/impl"
)

// The models say chapter 5's words one point at a time, and share nothing with the program.

func dot(d, p impl.Point) int {
	return d.X*p.X + d.Y*p.Y
}

func modelExtreme(h []impl.Point, d impl.Point) (impl.Point, bool) {
	if !modelGoodHull(h) || len(h) == 0 || !allWithin(impl.MaxXY, d) || d.X == 0 && d.Y == 0 {
		return impl.Point{}, false
	}
	most := dot(d, h[0])
	for _, p := range h {
		most = max(most, dot(d, p))
	}
	far := slices.DeleteFunc(slices.Clone(h), func(p impl.Point) bool { return dot(d, p) < most })
	return ordered(far)[0], true
}

func modelSupport(h []impl.Point, d impl.Point) (int, bool) {
	p, ok := modelExtreme(h, d)
	if !ok {
		return 0, false
	}
	return dot(d, p), true
}

func modelOutside(h []impl.Point, q impl.Point) bool {
	where, ok := modelWhere(h, q)
	return ok && where == impl.WhOut && len(h) > 0
}

// touching has the points of h with no other of them to that side of the way from q, -1 being the right one; the nearest one ahead.
func touching(h []impl.Point, q impl.Point, side int) []impl.Point {
	touch := slices.DeleteFunc(slices.Clone(h), func(p impl.Point) bool {
		return slices.ContainsFunc(h, func(o impl.Point) bool { return cross(q, p, o)*side > 0 })
	})
	slices.SortFunc(touch, func(a, b impl.Point) int { return apart(q, a) - apart(q, b) })
	return touch
}

// apart is how far it is from a to b, times itself.
func apart(a, b impl.Point) int {
	return (b.X-a.X)*(b.X-a.X) + (b.Y-a.Y)*(b.Y-a.Y)
}

func modelTangents(h []impl.Point, q impl.Point) (impl.Point, impl.Point, bool) {
	if !modelOutside(h, q) {
		return impl.Point{}, impl.Point{}, false
	}
	return touching(h, q, -1)[0], touching(h, q, 1)[0], true
}

func modelIsTangent(h []impl.Point, q, p impl.Point) (bool, bool) {
	if !modelOutside(h, q) || !slices.Contains(h, p) {
		return false, false
	}
	return slices.Contains(touching(h, q, -1), p) || slices.Contains(touching(h, q, 1), p), true
}

func modelSees(h []impl.Point, q impl.Point) ([]int, bool) {
	if !modelGoodHull(h) || len(h) < 3 || !allWithin(impl.MaxXY, q) {
		return nil, false
	}
	var seen []int
	closed := append(slices.Clone(h), h[0])
	for k := range h {
		if cross(closed[k], closed[k+1], q) < 0 {
			seen = append(seen, k)
		}
	}
	return seen, true
}

func modelPutOutside(h []impl.Point, q impl.Point) ([]impl.Point, bool) {
	if !modelGoodHull(h) || !allWithin(impl.MaxXY, q) {
		return nil, false
	}
	hull := sideBySide(ordered(append(slices.Clone(h), q)))
	return hull, len(hull) <= impl.MaxPoints
}

// checkFarthest holds promise 5 for a good set with a point at least, and a good direction that is not 0, 0.
func checkFarthest(t *testing.T, s []impl.Point, d impl.Point) {
	t.Helper()
	h, _ := impl.HullOf(s)
	p, ok := impl.ExtremeOf(h, d)
	most, told := impl.SupportOf(h, d)
	if !ok || !told || most != dot(d, p) || !slices.Contains(h, p) {
		t.Fatal("ExtremeOf and SupportOf", h, d, p, ok, most, told)
	}
	for _, other := range s {
		if dot(d, other) > most || dot(d, other) == most && before(other, p) < 0 {
			t.Fatal("a point is farther than ExtremeOf, or as far and less", s, d, p, other)
		}
		if sign, ok := impl.DotSign(d, p, other); sign > 0 || !ok {
			t.Fatal("DotSign tells a point that is farther than ExtremeOf", s, d, p, other)
		}
	}
}

// checkTangents holds promise 5 for a good set with a point at least, and a good point outside of its hull.
func checkTangents(t *testing.T, s []impl.Point, q impl.Point) {
	t.Helper()
	h, _ := impl.HullOf(s)
	a, b, ok := impl.TangentsFrom(h, q)
	if !ok || !slices.Contains(h, a) || !slices.Contains(h, b) {
		t.Fatal("TangentsFrom", h, q, a, b, ok)
	}
	for _, p := range s {
		if cross(q, a, p) < 0 || cross(q, b, p) > 0 {
			t.Fatal("a point is not between the tangents", s, q, a, b, p)
		}
		if p != a && between(q, a, p) || p != b && between(q, b, p) {
			t.Fatal("a point is nearer than the tangent in line with it", s, q, a, b, p)
		}
	}
	for _, p := range h {
		is, ok := impl.IsTangent(h, q, p)
		if want := cross(q, a, p) == 0 || cross(q, b, p) == 0; is != want || !ok {
			t.Fatal("IsTangent and TangentsFrom", h, q, a, b, p, is, ok)
		}
	}
}

// checkPut asks that PutOutside makes a hull in which all of the old one and q are, and that the sides that go are those SeesFrom tells of.
func checkPut(t *testing.T, h []impl.Point, q impl.Point) {
	t.Helper()
	g, ok := impl.PutOutside(h, q)
	if want, is := modelPutOutside(h, q); ok != is || ok && !slices.Equal(g, want) || !ok && len(g) > 0 {
		t.Fatal("PutOutside", h, q, g, ok)
	}
	if !ok {
		return
	}
	checkAllIn(t, g, append(slices.Clone(h), q))
	if len(h) < 3 {
		return
	}
	seen, ok := impl.SeesFrom(h, q)
	if where, _ := impl.WhereIs(h, q); !ok || (where == impl.WhOut) != (len(seen) > 0) {
		t.Fatal("SeesFrom and WhereIs", h, q, seen, ok, where)
	}
	if (len(seen) == 0) != slices.Equal(g, h) {
		t.Fatal("SeesFrom and PutOutside", h, q, seen, g)
	}
}

// checkLook asks all of chapter 5 of a good set and a point that may be anywhere.
func checkLook(t *testing.T, s []impl.Point, q impl.Point) {
	t.Helper()
	h, _ := impl.HullOf(s)
	seen, ok := impl.SeesFrom(h, q)
	if want, is := modelSees(h, q); !slices.Equal(seen, want) || ok != is {
		t.Fatal("SeesFrom", h, q, seen, ok)
	}
	a, b, ok := impl.TangentsFrom(h, q)
	if first, second, is := modelTangents(h, q); a != first || b != second || ok != is {
		t.Fatal("TangentsFrom", h, q, a, b, ok)
	}
	if ok {
		checkTangents(t, s, q)
	}
	checkPut(t, h, q)
}

// directions has those of a small square round 0, and some of the longest.
func directions() []impl.Point {
	m := impl.MaxXY
	l := []impl.Point{{X: m}, {X: -m}, {Y: m}, {Y: -m}, {X: m, Y: m}, {X: -m, Y: m}, {X: m, Y: 1 - m}, {X: 1, Y: m}, {X: -m, Y: -1}}
	for _, p := range grid(7) {
		if d := (impl.Point{X: p.X - 3, Y: p.Y - 3}); d.X != 0 || d.Y != 0 {
			l = append(l, d)
		}
	}
	return l
}
