package tests

import (
	"slices"
	"testing"

	"loop.example/g00780/impl"
)

// checkFar asks all of chapter 5, with a list that has that much room behind its length.
func checkFar(t *testing.T, h []impl.Point, q, p impl.Point, room int) {
	t.Helper()
	hull := lay(h, room)
	far, ok := impl.ExtremeOf(hull.list, q)
	if want, is := modelExtreme(h, q); far != want || ok != is {
		t.Fatal("ExtremeOf", h, q, far, ok)
	}
	most, ok := impl.SupportOf(hull.list, q)
	if want, is := modelSupport(h, q); most != want || ok != is {
		t.Fatal("SupportOf", h, q, most, ok)
	}
	a, b, ok := impl.TangentsFrom(hull.list, q)
	if first, second, is := modelTangents(h, q); a != first || b != second || ok != is {
		t.Fatal("TangentsFrom", h, q, a, b, ok)
	}
	tangent, ok := impl.IsTangent(hull.list, q, p)
	if want, is := modelIsTangent(h, q, p); tangent != want || ok != is {
		t.Fatal("IsTangent", h, q, p, tangent, ok)
	}
	seen, ok := impl.SeesFrom(hull.list, q)
	if want, is := modelSees(h, q); !slices.Equal(seen, want) || ok != is {
		t.Fatal("SeesFrom", h, q, seen, ok)
	}
	checkOwn(t, "one of ExtremeOf to SeesFrom", nil, hull)
	want, is := modelPutOutside(h, q)
	put, ok := impl.PutOutside(hull.list, q)
	checkList(t, "PutOutside", put, ok, want, is, hull)
}

func TestPromise18AnyFar(t *testing.T) {
	for _, room := range []int{0, 1, 200} {
		for i, h := range ringLists() {
			for k, q := range anyPoints() {
				checkFar(t, h, q, anyPoints()[(i+k)%len(anyPoints())], room)
				if len(h) > 0 {
					checkFar(t, h, q, h[(i+k)%len(h)], room)
					checkFar(t, h, h[(i+k)%len(h)], q, room)
				}
			}
		}
	}
}

// One point of a good hull is changed for one that is not good, in one line, at the wrong place or there twice.
func TestPromise18OnePointWrongFar(t *testing.T) {
	for _, n := range []int{1, 2, 3, 4, 17, impl.MaxPoints} {
		for place := range n {
			for _, p := range anyPoints() {
				h := bowl(n)
				h[place] = p
				checkFar(t, h, impl.Point{X: 0, Y: -9}, h[n/2], 2)
				checkFar(t, bowl(n), p, bowl(n)[place], 2)
				checkFar(t, bowl(n), impl.Point{X: 0, Y: -9}, p, 2)
			}
		}
	}
}

func TestPromise18ManyFar(t *testing.T) {
	n := numbers{state: 52}
	for range 3000 {
		most := []int{1, 3, 9, impl.MaxXY, impl.MaxXY + 1}[n.word()%5]
		s := someList(&n, most)
		h, _ := modelHull(s)
		p := n.point(most)
		if len(h) > 0 && n.word()%4 > 0 {
			p = h[n.word()%uint64(len(h))]
		}
		checkFar(t, h, n.point(most), p, int(n.word()%4))
		checkFar(t, h, n.point(2*most), p, int(n.word()%4))
		checkFar(t, s, n.point(most), p, int(n.word()%4))
	}
}

// No answer shares memory with another one, and nothing is kept.
func TestPromise18FarAskedAgain(t *testing.T) {
	h, q := squareHull(), impl.Point{X: 5, Y: 5}
	for range 3 {
		first, _ := impl.SeesFrom(h, q)
		second, ok := impl.SeesFrom(h, q)
		first[0], first[1] = 9, 9
		if third, is := impl.SeesFrom(h, q); !ok || !is || !slices.Equal(second, []int{1, 2}) || !slices.Equal(third, []int{1, 2}) {
			t.Fatal("SeesFrom asked again", second, third, ok, is)
		}
		one, _ := impl.PutOutside(h, q)
		two, ok := impl.PutOutside(h, q)
		one[0], one[2] = impl.Point{X: 9, Y: 9}, impl.Point{X: 9, Y: 9}
		want := []impl.Point{h[0], h[1], q, h[3]}
		if three, is := impl.PutOutside(h, q); !ok || !is || !slices.Equal(two, want) || !slices.Equal(three, want) {
			t.Fatal("PutOutside asked again", two, three, ok, is)
		}
	}
}

// A hull that is told again, as q is in it, is memory of its own, too, and points that were put away are not behind it.
func TestPromise18PutOutsideIsNew(t *testing.T) {
	for _, h := range ringLists() {
		for _, q := range append(slices.Clone(h), impl.Point{X: 1, Y: 1}, impl.Point{X: impl.MaxXY, Y: -impl.MaxXY}) {
			hull := lay(h, 3)
			answer, ok := impl.PutOutside(hull.list, q)
			for _, p := range answer[len(answer):cap(answer)] {
				if p != (impl.Point{}) {
					t.Fatal("behind the answer", h, q, answer, p)
				}
			}
			want, is := modelPutOutside(h, q)
			checkList(t, "PutOutside", answer, ok, want, is, hull)
		}
	}
}
