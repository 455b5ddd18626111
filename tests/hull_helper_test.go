package tests

import (
	"slices"
	"testing"

	"loop.example/g00780/impl"
)

// The models find a hull by its sides, each pair of points by itself, and share nothing with the program. They are asked of good points alone, of which int holds all that is worked out.

// cross is above 0 where c is left of the way from a to b.
func cross(a, b, c impl.Point) int {
	return (b.X-a.X)*(c.Y-a.Y) - (b.Y-a.Y)*(c.X-a.X)
}

// between says whether q is on the segment from a to b.
func between(a, b, q impl.Point) bool {
	return cross(a, b, q) == 0 && min(a.X, b.X) <= q.X && q.X <= max(a.X, b.X) && min(a.Y, b.Y) <= q.Y && q.Y <= max(a.Y, b.Y)
}

// isSideOf says whether all points are left of the way from a to b or between them.
func isSideOf(s []impl.Point, a, b impl.Point) bool {
	for _, p := range s {
		if cross(a, b, p) <= 0 && !between(a, b, p) {
			return false
		}
	}
	return a != b
}

func modelHull(s []impl.Point) ([]impl.Point, bool) {
	if !modelGood(s) {
		return nil, false
	}
	return sideBySide(s), true
}

// sideBySide has the hull of points in order, however many they are.
func sideBySide(s []impl.Point) []impl.Point {
	if len(s) < 2 {
		return slices.Clone(s)
	}
	round := []impl.Point{s[0]}
	for {
		at := round[len(round)-1]
		k := slices.IndexFunc(s, func(p impl.Point) bool { return isSideOf(s, at, p) })
		if s[k] == s[0] {
			return round
		}
		round = append(round, s[k])
	}
}

// modelLower has the part of the hull from the least point to the greatest one.
func modelLower(s []impl.Point) ([]impl.Point, bool) {
	h, ok := modelHull(s)
	if !ok || len(s) < 2 {
		return h, ok
	}
	return h[:slices.Index(h, s[len(s)-1])+1], true
}

func modelUpper(s []impl.Point) ([]impl.Point, bool) {
	h, ok := modelHull(s)
	if !ok || len(s) < 2 {
		return h, ok
	}
	return append(h[slices.Index(h, s[len(s)-1]):], s[0]), true
}

func modelIsHull(s, h []impl.Point) (bool, bool) {
	want, ok := modelHull(s)
	if !ok || len(h) > impl.MaxPoints {
		return false, false
	}
	return slices.Equal(h, want), true
}

// modelGoodHull says the document's words of what a hull is, with no hull made.
func modelGoodHull(h []impl.Point) bool {
	n := len(h)
	if n > impl.MaxPoints || !allWithin(impl.MaxXY, h...) {
		return false
	}
	for i := 1; i < n; i++ {
		if before(h[0], h[i]) >= 0 {
			return false
		}
	}
	if n < 3 {
		return true
	}
	rounds := 0
	for i := range n {
		a, b, c := h[i], h[(i+1)%n], h[(i+2)%n]
		if cross(a, b, c) <= 0 {
			return false
		}
		if !goesUp(a, b) && goesUp(b, c) {
			rounds++
		}
	}
	return rounds == 1
}

// goesUp is true of half of all directions, the opposite ones being the other half: what turns left at each step, by less than half a round, comes back to them once a round.
func goesUp(a, b impl.Point) bool {
	return b.Y > a.Y || b.Y == a.Y && b.X > a.X
}

// checkAllIn asks that no point is outside of a hull of two corners or more.
func checkAllIn(t *testing.T, h, s []impl.Point) {
	t.Helper()
	for i, a := range h {
		b := h[(i+1)%len(h)]
		for _, p := range s {
			if cross(a, b, p) < 0 || cross(a, b, p) == 0 && !between(a, b, p) {
				t.Fatal("a point is not in the hull", h, p)
			}
		}
	}
}

// checkHull holds promise 3 for one good set, and tells its hull.
func checkHull(t *testing.T, s []impl.Point) []impl.Point {
	t.Helper()
	h, ok := impl.HullOf(s)
	w, wrapped := impl.WrapOf(s)
	b, halved := impl.ByHalves(s)
	if !ok || !wrapped || !halved || !slices.Equal(h, w) || !slices.Equal(h, b) {
		t.Fatal("not the same hull three ways", s, h, w, b, ok, wrapped, halved)
	}
	if want, _ := modelHull(s); !slices.Equal(h, want) {
		t.Fatal("HullOf", s, h, want)
	}
	if is, ok := impl.IsHullOf(s, h); !is || !ok || !impl.GoodHull(h) || !modelGoodHull(h) {
		t.Fatal("no hull", s, h, is, ok)
	}
	checkAllIn(t, h, s)
	lower, ok := impl.LowerOf(s)
	if want, _ := modelLower(s); !ok || !slices.Equal(lower, want) {
		t.Fatal("LowerOf", s, lower, ok, want)
	}
	upper, ok := impl.UpperOf(s)
	if want, _ := modelUpper(s); !ok || !slices.Equal(upper, want) {
		t.Fatal("UpperOf", s, upper, ok, want)
	}
	return h
}

// bowl has n points on a curve that turns left throughout, each of them a corner.
func bowl(n int) []impl.Point {
	var l []impl.Point
	for i := range n {
		x := i - n/2
		l = append(l, impl.Point{X: x, Y: x * x})
	}
	return l
}

// eye has n points, an even number of them, on two curves, one on top of the other: each is a corner.
func eye(n int) []impl.Point {
	l := bowl(n / 2)
	for _, p := range bowl(n / 2) {
		l = append(l, impl.Point{X: -p.X, Y: 2000 - p.Y})
	}
	return l
}

// grid has the points of a square with so many on each side.
func grid(side int) []impl.Point {
	var l []impl.Point
	for x := range side {
		l = append(l, line(side, x, 0, impl.Point{Y: 1})...)
	}
	return l
}

// subset has the members whose bits stand in k.
func subset(l []impl.Point, k int) []impl.Point {
	s := []impl.Point{}
	for i, p := range l {
		if k>>i&1 == 1 {
			s = append(s, p)
		}
	}
	return s
}

// startAt has the ring from its member k on.
func startAt(h []impl.Point, k int) []impl.Point {
	return slices.Concat(h[k:], h[:k])
}

func reversed(l []impl.Point) []impl.Point {
	back := slices.Clone(l)
	slices.Reverse(back)
	return back
}
