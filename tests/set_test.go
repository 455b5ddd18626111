package tests

import (
	"slices"
	"testing"

	"loop.example/g00780/impl"
)

// checkPutAndDropped holds the promise of chapter 2 for one set and one point.
func checkPutAndDropped(t *testing.T, s []impl.Point, p impl.Point) {
	t.Helper()
	_, there := impl.PlaceOf(s, p)
	with, put := impl.PutPoint(s, p)
	without, dropped := impl.DropPoint(s, p)
	room := len(s) < impl.MaxPoints
	if !impl.GoodSet(s) || there != slices.Contains(s, p) || put != (!there && room) || dropped != there {
		t.Fatal("set, there, put, dropped", s, p, there, put, dropped)
	}
	if put {
		k, is := impl.PlaceOf(with, p)
		if !is || with[k] != p || len(with) != len(s)+1 || !impl.GoodSet(with) {
			t.Fatal("put, but not there", s, p, with)
		}
		checkAllThere(t, with, s)
		if back, ok := impl.DropPoint(with, p); !ok || !slices.Equal(back, s) {
			t.Fatal("put and dropped", s, p, back, ok)
		}
	}
	if dropped {
		if _, is := impl.PlaceOf(without, p); is || len(without) != len(s)-1 || !impl.GoodSet(without) {
			t.Fatal("dropped, but there", s, p, without)
		}
		checkAllThere(t, s, without)
		if back, ok := impl.PutPoint(without, p); !ok || !slices.Equal(back, s) {
			t.Fatal("dropped and put", s, p, back, ok)
		}
	}
}

func checkAllThere(t *testing.T, s, part []impl.Point) {
	t.Helper()
	for _, p := range part {
		if k, ok := impl.PlaceOf(s, p); !ok || s[k] != p {
			t.Fatal("not there any more", p, s)
		}
	}
}

// All sets of the points of a square of three by three, with each of its points.
func TestPromise2AllSmallSets(t *testing.T) {
	var square []impl.Point
	for x := -1; x <= 1; x++ {
		for y := -1; y <= 1; y++ {
			square = append(square, impl.Point{X: x, Y: y})
		}
	}
	for k := range 1 << len(square) {
		s := []impl.Point{}
		for i, p := range square {
			if k>>i&1 == 1 {
				s = append(s, p)
			}
		}
		for _, p := range square {
			checkPutAndDropped(t, s, p)
		}
		turned, ok := impl.TurnSet(s)
		if want, _ := modelTurn(s); !ok || !slices.Equal(turned, want) {
			t.Fatal("TurnSet", s, turned, ok)
		}
	}
}

func TestPromise2GreatSets(t *testing.T) {
	n := numbers{state: 20}
	for range 400 {
		most := []int{2, 9, impl.MaxXY}[n.word()%3]
		var s []impl.Point
		for range n.word() % 80 {
			p := n.point(most)
			checkPutAndDropped(t, s, p)
			if longer, ok := impl.PutPoint(s, p); ok {
				s = longer
			}
		}
		for len(s) > 0 {
			p := s[n.word()%uint64(len(s))]
			checkPutAndDropped(t, s, p)
			s, _ = impl.DropPoint(s, p)
		}
	}
}

func TestPromise2NamedPlaces(t *testing.T) {
	s := []impl.Point{{X: -3, Y: 5}, {X: 0, Y: -2}, {X: 0, Y: 0}, {X: 0, Y: 4}, {X: 6, Y: 1}}
	for _, c := range []struct {
		p    impl.Point
		want int
	}{
		{impl.Point{X: -4, Y: 99}, 0},
		{impl.Point{X: -3, Y: 4}, 0},
		{impl.Point{X: -3, Y: 6}, 1},
		{impl.Point{X: 0, Y: -3}, 1},
		{impl.Point{X: 0, Y: -1}, 2},
		{impl.Point{X: 0, Y: 1}, 3},
		{impl.Point{X: 0, Y: 5}, 4},
		{impl.Point{X: 5, Y: 100}, 4},
		{impl.Point{X: 6, Y: 2}, 5},
		{impl.Point{X: impl.MaxXY, Y: -impl.MaxXY}, 5},
	} {
		with, ok := impl.PutPoint(s, c.p)
		if !ok || !slices.Equal(with, slices.Insert(slices.Clone(s), c.want, c.p)) {
			t.Error("PutPoint", c.p, with, ok)
		}
		if k, ok := impl.PlaceOf(with, c.p); k != c.want || !ok {
			t.Error("PlaceOf", c.p, k, ok)
		}
		if k, ok := impl.PlaceOf(s, c.p); k != 0 || ok {
			t.Error("PlaceOf one that is not there", c.p, k, ok)
		}
		if l, ok := impl.DropPoint(s, c.p); len(l) != 0 || ok {
			t.Error("DropPoint of one that is not there", c.p, l, ok)
		}
	}
	for i, p := range s {
		without, ok := impl.DropPoint(s, p)
		if !ok || !slices.Equal(without, slices.Delete(slices.Clone(s), i, i+1)) {
			t.Error("DropPoint", p, without, ok)
		}
		if k, ok := impl.PlaceOf(s, p); k != i || !ok {
			t.Error("PlaceOf", p, k, ok)
		}
		if l, ok := impl.PutPoint(s, p); len(l) != 0 || ok {
			t.Error("PutPoint of one that is there", p, l, ok)
		}
	}
}

func TestPromise2SetsFromLists(t *testing.T) {
	a, b, c := impl.Point{X: 0, Y: 9}, impl.Point{X: 1, Y: -1}, impl.Point{X: 1, Y: 3}
	for _, l := range [][]impl.Point{
		{a, b, c}, {a, c, b}, {b, a, c}, {b, c, a}, {c, a, b}, {c, b, a},
		{a, a, b, c}, {c, b, a, c}, {b, b, b, c, a, a}, {c, c, c, b, a, b, a, b},
	} {
		s, ok := impl.SetFrom(l)
		if !ok || !slices.Equal(s, []impl.Point{a, b, c}) || !impl.GoodSet(s) {
			t.Error("SetFrom", l, s, ok)
		}
	}
	for _, l := range [][]impl.Point{nil, {}} {
		if s, ok := impl.SetFrom(l); len(s) != 0 || !ok {
			t.Error("SetFrom none", s, ok)
		}
	}
	same := slices.Repeat([]impl.Point{b}, impl.MaxPoints)
	if s, ok := impl.SetFrom(same); !ok || !slices.Equal(s, []impl.Point{b}) {
		t.Error("SetFrom the same again and again", s, ok)
	}
	if s, ok := impl.SetFrom(append(same, b)); len(s) != 0 || ok {
		t.Error("SetFrom one too many", s, ok)
	}
	full := rightward(impl.MaxPoints, -30)
	back := slices.Clone(full)
	slices.Reverse(back)
	if s, ok := impl.SetFrom(back); !ok || !slices.Equal(s, full) {
		t.Error("SetFrom MaxPoints of them", s, ok)
	}
	if s, ok := impl.SetFrom(rightward(impl.MaxPoints+1, -30)); len(s) != 0 || ok {
		t.Error("SetFrom one more", s, ok)
	}
}

func TestPromise2FullSets(t *testing.T) {
	full := rightward(impl.MaxPoints, 0)
	for _, p := range []impl.Point{{X: -1}, {X: 3, Y: 1}, {X: impl.MaxPoints}, full[0], full[30], full[impl.MaxPoints-1]} {
		if s, ok := impl.PutPoint(full, p); len(s) != 0 || ok {
			t.Error("PutPoint into a full set", p, s, ok)
		}
	}
	for i := range full {
		nearly, ok := impl.DropPoint(full, full[i])
		if !ok || len(nearly) != impl.MaxPoints-1 {
			t.Fatal("DropPoint from a full set", i, nearly, ok)
		}
		if s, ok := impl.PutPoint(nearly, full[i]); !ok || !slices.Equal(s, full) {
			t.Error("PutPoint fills a set", i, s, ok)
		}
		if s, ok := impl.PutPoint(nearly, impl.Point{X: i, Y: -1}); !ok || len(s) != impl.MaxPoints || s[i] != (impl.Point{X: i, Y: -1}) {
			t.Error("PutPoint fills a set", i, s, ok)
		}
	}
}

func TestPromise2JoinedSets(t *testing.T) {
	full, half := rightward(impl.MaxPoints, 0), impl.MaxPoints/2
	for _, c := range []struct {
		a, b, want []impl.Point
		ok         bool
	}{
		{nil, []impl.Point{}, nil, true},
		{nil, full, full, true},
		{full, nil, full, true},
		{full, full, full, true},
		{full[:half], full[half:], full, true},
		{full[half:], full[:half], full, true},
		{full[:half+7], full[half-7:], full, true},
		{full, full[half:], full, true},
		{full[5:6], full, full, true},
		{full, rightward(1, impl.MaxPoints), nil, false},
		{rightward(1, -1), full, nil, false},
		{rightward(half+1, 0), rightward(half, 1000), nil, false},
		{full, rightward(impl.MaxPoints, 1), nil, false},
		{full, rightward(impl.MaxPoints, 1000), nil, false},
		{full[:40], rightward(30, 31), nil, false},
		{full[:40], rightward(30, 30), full, true},
	} {
		j, ok := impl.JoinSets(c.a, c.b)
		if ok != c.ok || !slices.Equal(j, c.want) {
			t.Error("JoinSets", c.a, c.b, j, ok)
		}
	}
	n := numbers{state: 21}
	for range 2000 {
		a, b := someSet(&n, 4), someSet(&n, 4)
		j, ok := impl.JoinSets(a, b)
		if !ok || !impl.GoodSet(j) {
			t.Fatal("JoinSets", a, b, j, ok)
		}
		checkAllThere(t, j, a)
		checkAllThere(t, j, b)
		for _, p := range j {
			_, inA := impl.PlaceOf(a, p)
			if _, inB := impl.PlaceOf(b, p); !inA && !inB {
				t.Fatal("JoinSets has a point of none", a, b, p)
			}
		}
	}
}

// someSet is of few points with numbers in -most..most.
func someSet(n *numbers, most int) []impl.Point {
	var l []impl.Point
	for range n.word() % 20 {
		l = append(l, n.point(most))
	}
	return ordered(l)
}

func TestPromise2MovedSets(t *testing.T) {
	m := impl.MaxXY
	corners := []impl.Point{{X: -m, Y: -m}, {X: -m, Y: m}, {X: m, Y: -m}, {X: m, Y: m}}
	for _, c := range []struct {
		s    []impl.Point
		by   impl.Point
		want []impl.Point
		ok   bool
	}{
		{nil, impl.Point{X: m, Y: -m}, nil, true},
		{corners, impl.Point{}, corners, true},
		{corners, impl.Point{X: 1}, nil, false},
		{corners, impl.Point{Y: -1}, nil, false},
		{corners[:1], impl.Point{X: m, Y: m}, []impl.Point{{}}, true},
		{corners[3:], impl.Point{X: -m, Y: -m}, []impl.Point{{}}, true},
		{corners[:2], impl.Point{X: m}, []impl.Point{{Y: -m}, {Y: m}}, true},
		{[]impl.Point{{}}, impl.Point{X: m, Y: -m}, []impl.Point{{X: m, Y: -m}}, true},
		{[]impl.Point{{X: -1}, {X: 1}}, impl.Point{X: m - 1}, []impl.Point{{X: m - 2}, {X: m}}, true},
		{[]impl.Point{{X: -1}, {X: 1}}, impl.Point{X: m}, nil, false},
		{[]impl.Point{{X: -1}, {X: 1}}, impl.Point{X: 1 - m}, []impl.Point{{X: -m}, {X: 2 - m}}, true},
		{[]impl.Point{{X: -1}, {X: 1}}, impl.Point{X: -m}, nil, false},
		{[]impl.Point{{Y: -1}, {Y: 1}}, impl.Point{Y: m}, nil, false},
		{[]impl.Point{{Y: -1}, {Y: 1}}, impl.Point{Y: -m}, nil, false},
		{[]impl.Point{{Y: 1}}, impl.Point{Y: m - 1}, []impl.Point{{Y: m}}, true},
		{nil, impl.Point{X: m + 1}, nil, false},
		{nil, impl.Point{Y: -m - 1}, nil, false},
		{corners[:1], impl.Point{X: m + 1, Y: m}, nil, false},
		{corners[:1], impl.Point{X: m, Y: m + 1}, nil, false},
	} {
		moved, ok := impl.MoveSet(c.s, c.by)
		if ok != c.ok || !slices.Equal(moved, c.want) {
			t.Error("MoveSet", c.s, c.by, moved, ok)
		}
	}
}

func TestPromise2TurnedSets(t *testing.T) {
	m := impl.MaxXY
	for _, c := range []struct{ s, want []impl.Point }{
		{nil, nil},
		{[]impl.Point{{}}, []impl.Point{{}}},
		{[]impl.Point{{X: 2, Y: 3}}, []impl.Point{{X: -3, Y: 2}}},
		{[]impl.Point{{X: 0, Y: 1}, {X: 0, Y: 2}}, []impl.Point{{X: -2, Y: 0}, {X: -1, Y: 0}}},
		{[]impl.Point{{X: 1, Y: 0}, {X: 2, Y: 0}}, []impl.Point{{X: 0, Y: 1}, {X: 0, Y: 2}}},
		{[]impl.Point{{X: -m, Y: m}, {X: m, Y: -m}}, []impl.Point{{X: -m, Y: -m}, {X: m, Y: m}}},
	} {
		turned, ok := impl.TurnSet(c.s)
		if !ok || !slices.Equal(turned, c.want) {
			t.Error("TurnSet", c.s, turned, ok)
		}
	}
	n := numbers{state: 22}
	for range 500 {
		s := someSet(&n, []int{3, m}[n.word()%2])
		turned := s
		for k := range 4 {
			next, ok := impl.TurnSet(turned)
			if !ok || !impl.GoodSet(next) || len(next) != len(s) {
				t.Fatal("TurnSet", k, turned, next, ok)
			}
			for _, p := range turned {
				if _, there := impl.PlaceOf(next, impl.Point{X: -p.Y, Y: p.X}); !there {
					t.Fatal("TurnSet has lost a point", turned, next, p)
				}
			}
			turned = next
		}
		if !slices.Equal(turned, s) {
			t.Fatal("four turns are none", s, turned)
		}
	}
}
