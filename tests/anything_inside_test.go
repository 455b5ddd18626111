package tests

import (
	"slices"
	"testing"

	"loop.example/g00780/impl"
)

// checkInside asks all of chapter 4 that takes lists, with so much room behind their length.
func checkInside(t *testing.T, h, s []impl.Point, q impl.Point, room int) {
	t.Helper()
	one, two := lay(h, room), lay(s, room)
	where, ok := impl.WhereIs(one.list, q)
	if want, is := modelWhere(h, q); where != want || ok != is {
		t.Fatal("WhereIs", h, q, where, ok)
	}
	at, ok := impl.RimAt(one.list, q)
	if want, is := modelRimAt(h, q); at != want || ok != is {
		t.Fatal("RimAt", h, q, at, ok)
	}
	for _, l := range [][2]laid{{one, two}, {two, one}, {one, one}} {
		covers, ok := impl.Covers(l[0].list, l[1].list)
		if want, is := modelCovers(l[0].list, l[1].list); covers != want || ok != is {
			t.Fatal("Covers", l[0].list, l[1].list, covers, ok)
		}
	}
	checkOwn(t, "WhereIs, RimAt or Covers", nil, one, two)
	want, is := modelInside(h, s)
	in, ok := impl.InsideOf(one.list, two.list)
	checkList(t, "InsideOf", in, ok, want, is, one, two)
	want, is = modelInside(h, h)
	in, ok = impl.InsideOf(one.list, one.list)
	checkList(t, "InsideOf itself", in, ok, want, is, one)
	checkOwnFan(t, one)
}

// checkOwnFan asks that each triangle is memory of its own: whatever is written into all of its memory, the others and the hull are as they were.
func checkOwnFan(t *testing.T, hull laid) {
	t.Helper()
	want, is := modelFan(hull.list)
	fan, ok := impl.FanOf(hull.list)
	if !sameLists(fan, want) || ok != is {
		t.Fatal("FanOf", hull.list, fan, ok)
	}
	for _, list := range fan[len(fan):cap(fan)] {
		if len(list) != 0 {
			t.Fatal("behind the fan", fan, list)
		}
	}
	for i, list := range fan {
		checkOwn(t, "FanOf", list, hull)
		if !sameLists(fan[i+1:], want[i+1:]) {
			t.Fatal("two triangles share memory", hull.list, i)
		}
	}
	checkOwn(t, "FanOf", nil, hull)
}

func TestPromise18AnyInside(t *testing.T) {
	for _, room := range []int{0, 1, 200} {
		for i, h := range ringLists() {
			for k, s := range ringLists() {
				q := anyPoints()[(i+k)%len(anyPoints())]
				checkInside(t, h, s, q, room)
			}
			for _, q := range anyPoints() {
				checkInside(t, h, h, q, room)
			}
		}
	}
}

func TestPromise18AnySegmentsAndTriangles(t *testing.T) {
	for _, a := range anyPoints() {
		for _, b := range anyPoints() {
			for _, c := range anyPoints() {
				on, ok := impl.OnSegment(a, b, c)
				if want, is := modelOnSegment(a, b, c); on != want || ok != is {
					t.Fatal("OnSegment", a, b, c, on, ok)
				}
				for _, q := range anyPoints() {
					at, ok := impl.InTriangle(a, b, c, q)
					if want, is := modelInTriangle(a, b, c, q); at != want || ok != is {
						t.Fatal("InTriangle", a, b, c, q, at, ok)
					}
				}
			}
		}
	}
}

// One point of a good hull is changed for one that is not good, in one line, at the wrong place or there twice.
func TestPromise18OnePointWrongInside(t *testing.T) {
	for _, n := range []int{1, 2, 3, 4, 17, impl.MaxPoints} {
		for place := range n {
			for _, p := range anyPoints() {
				h := bowl(n)
				h[place] = p
				checkInside(t, h, bowl(n), impl.Point{X: 0, Y: 1}, 2)
				checkInside(t, bowl(n), h, p, 2)
			}
		}
	}
}

func TestPromise18ManyInside(t *testing.T) {
	n := numbers{state: 42}
	for range 3000 {
		most := []int{1, 3, 9, impl.MaxXY, impl.MaxXY + 1}[n.word()%5]
		s := someList(&n, most)
		h, _ := modelHull(s)
		checkInside(t, h, s, n.point(most), int(n.word()%4))
		checkInside(t, h, someList(&n, most), n.point(most), int(n.word()%4))
		checkInside(t, s, h, n.point(most), int(n.word()%4))
		g, _ := modelHull(ordered(s[:len(s)/2]))
		checkInside(t, h, g, n.point(most), int(n.word()%4))
	}
}

// No answer shares memory with another one, and nothing is kept.
func TestPromise18InsideAskedAgain(t *testing.T) {
	h := []impl.Point{{X: 0, Y: 0}, {X: 4, Y: 0}, {X: 4, Y: 4}, {X: 0, Y: 4}}
	for range 3 {
		first, _ := impl.InsideOf(h, grid(4))
		second, ok := impl.InsideOf(h, grid(4))
		first[0], first[15] = impl.Point{X: 9, Y: 9}, impl.Point{X: 9, Y: 9}
		if !ok || !slices.Equal(second, grid(4)) {
			t.Fatal("InsideOf asked again", second, ok)
		}
		fan, _ := impl.FanOf(h)
		again, ok := impl.FanOf(h)
		for _, list := range fan {
			list[0], list[2] = impl.Point{X: 9, Y: 9}, impl.Point{X: 9, Y: 9}
		}
		fan[0], fan[1] = nil, nil
		if want, _ := modelFan(h); !ok || !sameLists(again, want) {
			t.Fatal("FanOf asked again", again, ok)
		}
	}
}
