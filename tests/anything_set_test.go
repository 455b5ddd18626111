package tests

import (
	"math"
	"slices"
	"testing"

	"loop.example/g00780/impl"
)

// checkSets asks all of chapter 2, with lists that have that much room behind their length.
func checkSets(t *testing.T, a, b []impl.Point, p impl.Point, room int) {
	t.Helper()
	one, two := lay(a, room), lay(b, room)
	if impl.GoodSet(one.list) != modelGood(a) {
		t.Fatal("GoodSet", a)
	}
	k, ok := impl.PlaceOf(one.list, p)
	if want, is := modelPlace(a, p); k != want || ok != is {
		t.Fatal("PlaceOf", a, p, k, ok)
	}
	checkOwn(t, "GoodSet or PlaceOf", nil, one)
	answer, ok := impl.SetFrom(one.list)
	want, is := modelFrom(a)
	checkList(t, "SetFrom", answer, ok, want, is, one)
	answer, ok = impl.PutPoint(one.list, p)
	want, is = modelPut(a, p)
	checkList(t, "PutPoint", answer, ok, want, is, one)
	answer, ok = impl.DropPoint(one.list, p)
	want, is = modelDrop(a, p)
	checkList(t, "DropPoint", answer, ok, want, is, one)
	answer, ok = impl.JoinSets(one.list, two.list)
	want, is = modelJoin(a, b)
	checkList(t, "JoinSets", answer, ok, want, is, one, two)
	answer, ok = impl.JoinSets(one.list, one.list)
	want, is = modelJoin(a, a)
	checkList(t, "JoinSets with itself", answer, ok, want, is, one)
	answer, ok = impl.MoveSet(one.list, p)
	want, is = modelMove(a, p)
	checkList(t, "MoveSet", answer, ok, want, is, one)
	answer, ok = impl.TurnSet(one.list)
	want, is = modelTurn(a)
	checkList(t, "TurnSet", answer, ok, want, is, one)
}

// pointLists are good sets and others, at the edges that the document names.
func pointLists() [][]impl.Point {
	m := impl.MaxXY
	a, b, c := impl.Point{X: -2, Y: 4}, impl.Point{X: 0, Y: -1}, impl.Point{X: 0, Y: 3}
	lists := [][]impl.Point{
		nil, {}, {{}}, {a}, {a, b}, {b, c}, {a, b, c},
		{b, a}, {c, b}, {a, a}, {a, b, b}, {a, a, c}, {a, c, b}, {b, c, a}, {c, b, a},
		{behind}, {a, behind}, {behind, a},
		{{X: -m, Y: -m}}, {{X: -m, Y: m}, {X: m, Y: -m}}, {{X: m, Y: m}},
		{{X: m + 1}}, {{X: -m - 1}}, {{Y: m + 1}}, {{Y: -m - 1}},
		{a, b, {X: m + 1}}, {{X: -m - 1}, a, b}, {a, {X: -1, Y: m + 1}, b}, {a, b, {X: 1, Y: -m - 1}},
		{{X: math.MinInt, Y: math.MinInt}}, {{X: math.MaxInt, Y: math.MaxInt}}, {a, {X: 0, Y: math.MinInt}}, {{X: math.MinInt}, a, {X: math.MaxInt}},
	}
	for _, n := range []int{impl.MaxPoints - 1, impl.MaxPoints, impl.MaxPoints + 1, 2 * impl.MaxPoints, 1000} {
		rise := rightward(n, 1-n)
		fall := slices.Clone(rise)
		slices.Reverse(fall)
		lists = append(lists, rise, fall, rightward(n, -3), line(n, 5, -9, impl.Point{Y: 1}), slices.Repeat([]impl.Point{a}, n))
	}
	return lists
}

func anyPoints() []impl.Point {
	m := impl.MaxXY
	l := []impl.Point{{}, behind, {X: -2, Y: 4}, {X: 0, Y: -1}, {X: 0, Y: 3}, {X: 0, Y: 1}, {X: 1}, {X: -60}, {X: 60}}
	for _, e := range []int{m, -m, m + 1, -m - 1, math.MaxInt, math.MinInt} {
		l = append(l, impl.Point{X: e}, impl.Point{Y: e}, impl.Point{X: e, Y: -e}, impl.Point{X: e, Y: e})
	}
	return l
}

func TestPromise18AnySets(t *testing.T) {
	for _, room := range []int{0, 1, 200} {
		for _, a := range pointLists() {
			for _, p := range anyPoints() {
				checkSets(t, a, a[:len(a)/2], p, room)
			}
			for _, b := range pointLists() {
				checkSets(t, a, b, impl.Point{X: 1, Y: 2}, room)
			}
		}
	}
}

// One point of a good set is changed for one that is not good, out of order or there twice.
func TestPromise18OnePointWrong(t *testing.T) {
	for _, n := range []int{1, 2, 3, 17, impl.MaxPoints} {
		for place := range n {
			for _, p := range anyPoints() {
				s := rightward(n, -2)
				s[place] = p
				checkSets(t, s, rightward(3, 0), impl.Point{X: 2, Y: 2}, 2)
				checkSets(t, rightward(3, 0), s, impl.Point{}, 2)
			}
		}
	}
}

func TestPromise18ManyLists(t *testing.T) {
	n := numbers{state: 23}
	for range 6000 {
		most := []int{1, 3, 9, impl.MaxXY, impl.MaxXY + 1}[n.word()%5]
		a, b := someList(&n, most), someList(&n, most)
		p := n.point(most)
		if len(a) > 0 && n.word()%2 == 0 {
			p = a[n.word()%uint64(len(a))]
		}
		checkSets(t, a, b, p, int(n.word()%4))
	}
}

// someList is a set three times out of four, of up to some more than MaxPoints points.
func someList(n *numbers, most int) []impl.Point {
	var l []impl.Point
	for range n.word() % (impl.MaxPoints + 8) {
		l = append(l, n.point(most))
	}
	if n.word()%4 > 0 {
		return ordered(l)
	}
	return l
}

// Nothing is kept: an answer that the caller writes into is told again as it was.
func TestPromise18SetsAskedAgain(t *testing.T) {
	l := []impl.Point{{X: 4, Y: 1}, {X: -2, Y: 3}, {X: 4, Y: 0}}
	want := []impl.Point{{X: -2, Y: 3}, {X: 4, Y: 0}, {X: 4, Y: 1}}
	for range 3 {
		first, _ := impl.SetFrom(l)
		second, ok := impl.SetFrom(l)
		first[0] = impl.Point{X: 9, Y: 9}
		if !ok || !slices.Equal(second, want) {
			t.Fatal("SetFrom asked again", second, ok)
		}
	}
}
