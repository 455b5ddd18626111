package tests

import (
	"slices"
	"testing"

	"loop.example/g00780/impl"
)

// checkHulls asks all of chapter 3, with lists that have that much room behind their length.
func checkHulls(t *testing.T, s, h []impl.Point, room int) {
	t.Helper()
	one, two := lay(s, room), lay(h, room)
	if impl.GoodHull(one.list) != modelGoodHull(s) || impl.GoodHull(two.list) != modelGoodHull(h) {
		t.Fatal("GoodHull", s, h)
	}
	is, ok := impl.IsHullOf(one.list, two.list)
	if want, as := modelIsHull(s, h); is != want || ok != as {
		t.Fatal("IsHullOf", s, h, is, ok)
	}
	is, ok = impl.IsHullOf(one.list, one.list)
	if want, as := modelIsHull(s, s); is != want || ok != as {
		t.Fatal("IsHullOf itself", s, is, ok)
	}
	checkOwn(t, "GoodHull or IsHullOf", nil, one, two)
	hull, good := modelHull(s)
	answer, ok := impl.HullOf(one.list)
	checkList(t, "HullOf", answer, ok, hull, good, one)
	answer, ok = impl.WrapOf(one.list)
	checkList(t, "WrapOf", answer, ok, hull, good, one)
	answer, ok = impl.ByHalves(one.list)
	checkList(t, "ByHalves", answer, ok, hull, good, one)
	want, good := modelLower(s)
	answer, ok = impl.LowerOf(one.list)
	checkList(t, "LowerOf", answer, ok, want, good, one)
	want, good = modelUpper(s)
	answer, ok = impl.UpperOf(one.list)
	checkList(t, "UpperOf", answer, ok, want, good, one)
}

// ringLists are hulls, rings that are none, and sets with corners and without.
func ringLists() [][]impl.Point {
	square := []impl.Point{{X: 0, Y: 0}, {X: 4, Y: 0}, {X: 4, Y: 4}, {X: 0, Y: 4}}
	return append(pointLists(),
		square, startAt(square, 1), reversed(square), ordered(square), square[:3], square[1:], star(), ordered(star()),
		grid(3), grid(7), grid(8), bowl(impl.MaxPoints), bowl(impl.MaxPoints+1), eyeRound(impl.MaxPoints), ordered(eye(impl.MaxPoints)),
		line(impl.MaxPoints, -30, -60, impl.Point{X: 1, Y: 2}), reversed(bowl(9)), slices.Repeat(square, 3),
		// Many points are taken for corners until the last one comes.
		append(bowl(9), impl.Point{X: 9, Y: -900}), append([]impl.Point{{X: -9, Y: -900}}, bowl(9)...), caps(),
	)
}

// caps has points that turn right throughout, but for a first one high above them.
func caps() []impl.Point {
	l := []impl.Point{{X: -9, Y: 900}}
	for _, p := range bowl(9) {
		l = append(l, impl.Point{X: p.X, Y: -p.Y})
	}
	return l
}

func TestPromise18AnyHulls(t *testing.T) {
	for _, room := range []int{0, 1, 200} {
		for _, s := range ringLists() {
			for _, h := range ringLists() {
				checkHulls(t, s, h, room)
			}
		}
	}
}

// One point of a good set is changed for one that is not good, out of order or there twice.
func TestPromise18OnePointWrongOfAHull(t *testing.T) {
	for _, n := range []int{1, 2, 3, 4, 17, impl.MaxPoints} {
		for place := range n {
			for _, p := range anyPoints() {
				s, h := bowl(n), bowl(n)
				s[place] = p
				checkHulls(t, s, h, 2)
				checkHulls(t, h, s, 2)
			}
		}
	}
}

func TestPromise18ManyHulls(t *testing.T) {
	n := numbers{state: 33}
	for range 3000 {
		most := []int{1, 3, 9, impl.MaxXY, impl.MaxXY + 1}[n.word()%5]
		s := someList(&n, most)
		h, _ := modelHull(s)
		checkHulls(t, s, h, int(n.word()%4))
		checkHulls(t, s, someList(&n, most), int(n.word()%4))
	}
}

// No answer shares memory with another one, and nothing is kept.
func TestPromise18HullsAskedAgain(t *testing.T) {
	s := grid(4)
	want, _ := modelHull(s)
	for _, f := range []func([]impl.Point) ([]impl.Point, bool){impl.HullOf, impl.WrapOf, impl.ByHalves} {
		first, _ := f(s)
		second, ok := f(s)
		for i := range first {
			first[i] = impl.Point{X: 9, Y: 9}
		}
		if third, is := f(s); !ok || !is || !slices.Equal(second, want) || !slices.Equal(third, want) {
			t.Error("asked again", second, third, ok, is)
		}
	}
}

// Points that were on the way to a hull and are none of its corners are not handed out behind it.
func TestPromise18NothingBehindHulls(t *testing.T) {
	for _, s := range ringLists() {
		for _, f := range []func([]impl.Point) ([]impl.Point, bool){impl.HullOf, impl.LowerOf, impl.UpperOf, impl.WrapOf, impl.ByHalves} {
			answer, _ := f(s)
			for _, p := range answer[len(answer):cap(answer)] {
				if p != (impl.Point{}) {
					t.Fatal("behind the answer", s, answer, p)
				}
			}
		}
	}
}
