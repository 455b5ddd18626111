package tests

import (
	"slices"
	"testing"

	"loop.example/g00780/impl"
)

// checkArea asks all of chapter 8, with a list that has that much room behind its length.
func checkArea(t *testing.T, l []impl.Point, a, b impl.Point, room int) {
	t.Helper()
	list := lay(l, room)
	twice, ok := impl.TwiceArea(list.list)
	if want, is := modelTwiceArea(l); twice != want || ok != is {
		t.Fatal("TwiceArea", l, twice, ok)
	}
	rim, ok := impl.RimPoints(list.list)
	if want, is := modelRim(l); rim != want || ok != is {
		t.Fatal("RimPoints", l, rim, ok)
	}
	inner, ok := impl.InnerPoints(list.list)
	if is := modelGoodHull(l); ok != is || (!is || len(l) < 3) && inner != 0 || is && len(l) > 2 && 2*inner != twice-rim+2 {
		t.Fatal("InnerPoints", l, inner, ok)
	}
	in, on, ok := impl.CountIn(list.list)
	if one, two, is := modelCount(l); in != one || on != two || ok != is {
		t.Fatal("CountIn", l, in, on, ok)
	}
	low, high, ok := impl.BoxOf(list.list)
	if one, two, is := modelBox(l); low != one || high != two || ok != is {
		t.Fatal("BoxOf", l, low, high, ok)
	}
	middle, by, ok := impl.MiddleOf(list.list)
	if want, n, is := modelMiddle(l); middle != want || by != n || ok != is {
		t.Fatal("MiddleOf", l, middle, by, ok)
	}
	checkOwn(t, "one of chapter 8", nil, list)
	checkSteps(t, a, b)
}

func checkSteps(t *testing.T, a, b impl.Point) {
	t.Helper()
	was := [2]impl.Point{a, b}
	steps, ok := impl.StepsOn(a, b)
	if want, is := modelSteps(a, b); steps != want || ok != is || was != [2]impl.Point{a, b} {
		t.Fatal("StepsOn", a, b, steps, ok)
	}
}

func TestPromise18AnyArea(t *testing.T) {
	for _, room := range []int{0, 1, 200} {
		for i, h := range append(append(ringLists(), notHulls()...), fullHulls()...) {
			p := anyPoints()[i%len(anyPoints())]
			checkArea(t, h, p, anyPoints()[(i+room)%len(anyPoints())], room)
			// What lies behind may be the rest of a hull.
			for k := range h {
				whole := slices.Clone(h)
				checkPart(t, whole, k)
			}
		}
	}
}

// checkPart asks for the first points of a list that goes on.
func checkPart(t *testing.T, whole []impl.Point, k int) {
	t.Helper()
	was := slices.Clone(whole)
	twice, ok := impl.TwiceArea(whole[:k])
	if want, is := modelTwiceArea(was[:k:k]); twice != want || ok != is {
		t.Fatal("TwiceArea a part", whole, k, twice, ok)
	}
	rim, ok := impl.RimPoints(whole[:k])
	if want, is := modelRim(was[:k:k]); rim != want || ok != is {
		t.Fatal("RimPoints a part", whole, k, rim, ok)
	}
	low, high, ok := impl.BoxOf(whole[:k])
	if one, two, is := modelBox(was[:k:k]); low != one || high != two || ok != is {
		t.Fatal("BoxOf a part", whole, k, low, high, ok)
	}
	if !slices.Equal(whole, was) {
		t.Fatal("written behind a list", was, whole)
	}
}

func TestPromise18AnySteps(t *testing.T) {
	for _, a := range anyPoints() {
		for _, b := range anyPoints() {
			checkSteps(t, a, b)
		}
	}
	n := numbers{state: 84}
	l := edges()
	for range 6000 {
		checkSteps(t, impl.Point{X: n.pick(l), Y: n.pick(l)}, impl.Point{X: n.pick(l), Y: n.pick(l)})
		checkSteps(t, n.point(impl.MaxXY+1), n.point(impl.MaxXY+1))
		checkSteps(t, impl.Point{X: int(n.word()), Y: int(n.word())}, impl.Point{X: int(n.word()), Y: int(n.word())})
	}
}

// One point of a good hull is changed for one that is not good, in one line, at the wrong place or there twice.
func TestPromise18OnePointWrongArea(t *testing.T) {
	m := impl.MaxCount
	beyond := []impl.Point{{X: m}, {X: m + 1}, {X: -m}, {X: -m - 1}, {Y: m}, {Y: m + 1}, {Y: -m}, {Y: -m - 1}}
	for _, n := range []int{1, 2, 3, 4, 9, 17, impl.MaxPoints} {
		for place := range n {
			for i, p := range append(anyPoints(), beyond...) {
				h := bowl(n)
				h[place] = p
				checkArea(t, h, p, bowl(n)[place], i%3)
				if n == impl.MaxPoints {
					h = wheel()
					h[place] = p
					checkArea(t, h, bowl(n)[place], p, i%3)
				}
			}
		}
	}
}

func TestPromise18ManyAreas(t *testing.T) {
	n := numbers{state: 85}
	for range 1500 {
		most := []int{1, 3, 9, impl.MaxCount, impl.MaxCount + 1, impl.MaxXY, impl.MaxXY + 1}[n.word()%7]
		s := someList(&n, most)
		h, _ := modelHull(s)
		checkArea(t, h, n.point(most), n.point(most), int(n.word()%4))
		checkArea(t, s, n.point(most), n.point(2*most), int(n.word()%4))
		if len(h) > 1 {
			checkArea(t, startAt(h, 1), h[0], h[1], 1)
			checkArea(t, append(h, h[0]), h[1], h[0], 1)
		}
	}
}

// Nothing is kept: what is asked again is told again, whatever was asked between.
func TestPromise18AreaAskedAgain(t *testing.T) {
	for range 3 {
		for _, h := range [][]impl.Point{squareHull(), wheel(), nil, widest(), {{X: 1}, {X: 3}}, star(), squareHull()[1:]} {
			checkArea(t, h, impl.Point{X: 3}, impl.Point{X: 9, Y: -3}, 2)
			checkArea(t, ordered(h), impl.Point{X: 9, Y: -3}, impl.Point{X: 3}, 2)
		}
	}
}
