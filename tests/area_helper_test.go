package tests

import (
	"math/big"
	"slices"
	"testing"

	"loop.example/g00780/impl"
)

// The models say chapter 8 with no fan and no sum over triangles: an area by what is under each side, points by columns or one by one. They share nothing with the program.

// under is twice what is between the way from a to b and 0, 0.
func under(a, b impl.Point) int {
	return a.X*b.Y - a.Y*b.X
}

// eachSide asks of each corner of a ring and the next one, round.
func eachSide(ring []impl.Point, ask func(a, b impl.Point)) {
	for k, a := range ring {
		ask(a, ring[(k+1)%len(ring)])
	}
}

func modelTwiceArea(h []impl.Point) (int, bool) {
	if !modelGoodHull(h) {
		return 0, false
	}
	twice := 0
	eachSide(h, func(a, b impl.Point) { twice += under(a, b) })
	return twice, true
}

func modelSteps(a, b impl.Point) (int, bool) {
	if !allWithin(impl.MaxXY, a, b) {
		return 0, false
	}
	x, y := bigLess(b.X, a.X), bigLess(b.Y, a.Y)
	return int(new(big.Int).GCD(nil, nil, x.Abs(x), y.Abs(y)).Int64()), true
}

func modelRim(h []impl.Point) (int, bool) {
	if !modelGoodHull(h) {
		return 0, false
	}
	ends := 0
	eachSide(h, func(a, b impl.Point) {
		steps, _ := modelSteps(a, b)
		ends += steps
	})
	// A hull of two points was gone along there and back.
	switch len(h) {
	case 1:
		return 1, true
	case 2:
		return ends/2 + 1, true
	}
	return ends, true
}

// modelInner counts what columns have, less the rim.
func modelInner(h []impl.Point) (int, bool) {
	rim, ok := modelRim(h)
	if !ok || len(h) < 3 {
		return 0, ok
	}
	low, high := span(h)
	all := 0
	for x := low.X; x <= high.X; x++ {
		all += inColumn(h, x)
	}
	return all - rim, true
}

// inColumn tells how many points with that X are in a ring of three corners or more, the rim with it.
func inColumn(ring []impl.Point, x int) int {
	low, high := -impl.MaxXY, impl.MaxXY
	eachSide(ring, func(a, b impl.Point) {
		switch {
		case a.X <= x && x <= b.X && a.X < b.X:
			low = max(low, -floor(-above(a, b, x), b.X-a.X))
		case b.X <= x && x <= a.X && b.X < a.X:
			high = min(high, floor(above(b, a, x), a.X-b.X))
		}
	})
	return high - low + 1
}

// above is how high the way from a to b, which goes to the right, is at x, times how far to the right it goes.
func above(a, b impl.Point, x int) int {
	return a.Y*(b.X-a.X) + (x-a.X)*(b.Y-a.Y)
}

// floor divides and rounds down; by is above 0.
func floor(n, by int) int {
	q := n / by
	if q*by > n {
		q--
	}
	return q
}

// span has the least numbers and the greatest ones of a list with a point at least.
func span(l []impl.Point) (impl.Point, impl.Point) {
	var xs, ys []int
	for _, p := range l {
		xs, ys = append(xs, p.X), append(ys, p.Y)
	}
	slices.Sort(xs)
	slices.Sort(ys)
	return impl.Point{X: xs[0], Y: ys[0]}, impl.Point{X: xs[len(xs)-1], Y: ys[len(ys)-1]}
}

func modelCount(h []impl.Point) (int, int, bool) {
	if !modelGoodHull(h) || !allWithin(impl.MaxCount, h...) {
		return 0, 0, false
	}
	if len(h) == 0 {
		return 0, 0, true
	}
	in, rim := 0, 0
	low, high := span(h)
	for x := low.X; x <= high.X; x++ {
		for y := low.Y; y <= high.Y; y++ {
			switch placeIn(h, impl.Point{X: x, Y: y}) {
			case impl.WhIn:
				in++
			case impl.WhRim:
				rim++
			}
		}
	}
	return in, rim, true
}

func modelBox(s []impl.Point) (impl.Point, impl.Point, bool) {
	if !modelGood(s) || len(s) == 0 {
		return impl.Point{}, impl.Point{}, false
	}
	low, high := span(s)
	return low, high, true
}

func modelMiddle(h []impl.Point) (impl.Point, int, bool) {
	if !modelGoodHull(h) || len(h) < 3 || !allWithin(impl.MaxCount, h...) {
		return impl.Point{}, 0, false
	}
	var middle impl.Point
	by := 0
	eachSide(h, func(a, b impl.Point) {
		middle.X += (a.X + b.X) * under(a, b)
		middle.Y += (a.Y + b.Y) * under(a, b)
		by += 3 * under(a, b)
	})
	return middle, by, true
}

// wheel has the most corners that a hull may have, none of its sides has a point with whole numbers but its ends, and 0, 0 is its middle. All its numbers may be counted in.
func wheel() []impl.Point {
	steps := []impl.Point{{X: 5, Y: 2}, {X: -2, Y: 5}, {X: -5, Y: -2}, {X: 2, Y: -5}}
	for _, s := range []impl.Point{{X: 1, Y: 0}, {X: 1, Y: 1}, {X: 2, Y: 1}, {X: 3, Y: 1}, {X: 3, Y: 2}, {X: 4, Y: 1}, {X: 5, Y: 1}, {X: 4, Y: 3}} {
		for range 4 {
			s = impl.Point{X: -s.Y, Y: s.X}
			steps = append(steps, s, impl.Point{X: s.Y, Y: s.X})
		}
	}
	slices.SortFunc(steps, byAngle)
	ring := []impl.Point{{}}
	for _, s := range slices.Compact(steps) {
		ring = append(ring, grown(s, 1, ring[len(ring)-1]))
	}
	low, high := span(ring)
	return sideBySide(ordered(shifted(ring, impl.Point{X: -(low.X + high.X) / 2, Y: -(low.Y + high.Y) / 2})))
}

// byAngle orders ways by where they look, round once.
func byAngle(a, b impl.Point) int {
	up, so := goesUp(impl.Point{}, a), goesUp(impl.Point{}, b)
	switch {
	case up && !so:
		return -1
	case so && !up:
		return 1
	}
	return -cross(impl.Point{}, a, b)
}

func shifted(l []impl.Point, by impl.Point) []impl.Point {
	var s []impl.Point
	for _, p := range l {
		s = append(s, grown(p, 1, by))
	}
	return s
}

// checkPick holds promise 8 for one good hull.
func checkPick(t *testing.T, h []impl.Point) {
	t.Helper()
	twice, ok := impl.TwiceArea(h)
	if want, is := modelTwiceArea(h); twice != want || !ok || !is {
		t.Fatal("TwiceArea", h, twice, ok, want)
	}
	rim, ok := impl.RimPoints(h)
	if want, is := modelRim(h); rim != want || !ok || !is {
		t.Fatal("RimPoints", h, rim, ok, want)
	}
	inner, ok := impl.InnerPoints(h)
	if !ok || len(h) < 3 && (twice != 0 || inner != 0) || len(h) >= 3 && twice != 2*inner+rim-2 {
		t.Fatal("Pick", h, twice, inner, rim, ok)
	}
	low, high, ok := impl.BoxOf(ordered(h))
	if one, two, is := modelBox(ordered(h)); low != one || high != two || ok != is {
		t.Fatal("BoxOf", h, low, high, ok)
	}
}

// checkColumns holds InnerPoints against a count by columns.
func checkColumns(t *testing.T, h []impl.Point) {
	t.Helper()
	inner, ok := impl.InnerPoints(h)
	if want, is := modelInner(h); inner != want || ok != is {
		t.Fatal("InnerPoints", h, inner, ok, want)
	}
}

// checkCounted holds CountIn against a count of the test's own and against what is worked out, for a good hull without numbers beyond MaxCount.
func checkCounted(t *testing.T, h []impl.Point) {
	t.Helper()
	in, rim, ok := impl.CountIn(h)
	if one, two, is := modelCount(h); in != one || rim != two || !ok || !is {
		t.Fatal("CountIn", h, in, rim, ok, one, two)
	}
	inner, _ := impl.InnerPoints(h)
	if on, _ := impl.RimPoints(h); in != inner || rim != on {
		t.Fatal("counted and worked out", h, in, rim, inner, on)
	}
}

// checkMiddle holds MiddleOf against the model, asks that the middle is inside, and that it moves with the hull, for a good hull of three points at least without numbers beyond MaxCount.
func checkMiddle(t *testing.T, h []impl.Point) {
	t.Helper()
	middle, by, ok := impl.MiddleOf(h)
	if want, n, is := modelMiddle(h); middle != want || by != n || !ok || !is {
		t.Fatal("MiddleOf", h, middle, by, ok, want, n)
	}
	twice, _ := impl.TwiceArea(h)
	if by != 3*twice {
		t.Fatal("not three times the area", h, by, twice)
	}
	eachSide(h, func(a, b impl.Point) {
		if cross(grown(a, by, impl.Point{}), grown(b, by, impl.Point{}), middle) <= 0 {
			t.Fatal("the middle is outside", h, middle, by, a, b)
		}
	})
	for _, v := range []impl.Point{{X: 1, Y: -3}, {X: -5, Y: 2}} {
		if on := shifted(h, v); allWithin(impl.MaxCount, on...) {
			after, n, ok := impl.MiddleOf(on)
			if after != grown(v, by, middle) || n != by || !ok {
				t.Fatal("MiddleOf a moved hull", h, v, middle, after, by, n, ok)
			}
		}
	}
}

// checkCut asks that what a hull of four points at least has is in the two parts of it, cut from its first corner to corner k.
func checkCut(t *testing.T, h []impl.Point, k int) {
	t.Helper()
	one, two := h[:k+1], append([]impl.Point{h[0]}, h[k:]...)
	steps, _ := impl.StepsOn(h[0], h[k])
	for name, ask := range map[string]struct {
		told func([]impl.Point) (int, bool)
		less int
	}{"TwiceArea": {impl.TwiceArea, 0}, "RimPoints": {impl.RimPoints, 2 * steps}, "InnerPoints": {impl.InnerPoints, 1 - steps}} {
		all, ok := ask.told(h)
		a, first := ask.told(one)
		b, second := ask.told(two)
		if !ok || !first || !second || all != a+b-ask.less {
			t.Fatal(name, "of both parts", h, k, all, a, b, ask.less, ok, first, second)
		}
	}
	all, n, ok := impl.MiddleOf(h)
	a, i, _ := impl.MiddleOf(one)
	b, j, _ := impl.MiddleOf(two)
	if ok && (all != grown(a, 1, b) || n != i+j) {
		t.Fatal("MiddleOf both parts", h, k, all, a, b, n, i, j)
	}
}
