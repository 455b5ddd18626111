package tests

import (
	"slices"
	"testing"

	"loop.example/g00780/impl"
)

// The models say chapter 2 with the library's sorting, and share nothing with the program.

func before(a, b impl.Point) int {
	switch {
	case a.X < b.X || a.X == b.X && a.Y < b.Y:
		return -1
	case a == b:
		return 0
	}
	return 1
}

func modelGood(s []impl.Point) bool {
	if len(s) > impl.MaxPoints || !allWithin(impl.MaxXY, s...) {
		return false
	}
	for i := range s {
		if i > 0 && before(s[i-1], s[i]) >= 0 {
			return false
		}
	}
	return true
}

func ordered(l []impl.Point) []impl.Point {
	s := slices.Clone(l)
	slices.SortFunc(s, before)
	return slices.Compact(s)
}

func modelFrom(l []impl.Point) ([]impl.Point, bool) {
	if len(l) > impl.MaxPoints || !allWithin(impl.MaxXY, l...) {
		return nil, false
	}
	return ordered(l), true
}

func modelPut(s []impl.Point, p impl.Point) ([]impl.Point, bool) {
	if !modelGood(s) || !allWithin(impl.MaxXY, p) || slices.Contains(s, p) || len(s)+1 > impl.MaxPoints {
		return nil, false
	}
	return ordered(append(slices.Clone(s), p)), true
}

func modelDrop(s []impl.Point, p impl.Point) ([]impl.Point, bool) {
	if !modelGood(s) || !slices.Contains(s, p) {
		return nil, false
	}
	return slices.DeleteFunc(slices.Clone(s), func(q impl.Point) bool { return q == p }), true
}

func modelPlace(s []impl.Point, p impl.Point) (int, bool) {
	if !modelGood(s) || !slices.Contains(s, p) {
		return 0, false
	}
	return slices.Index(s, p), true
}

func modelJoin(a, b []impl.Point) ([]impl.Point, bool) {
	all := ordered(slices.Concat(a, b))
	if !modelGood(a) || !modelGood(b) || len(all) > impl.MaxPoints {
		return nil, false
	}
	return all, true
}

func modelMove(s []impl.Point, by impl.Point) ([]impl.Point, bool) {
	if !modelGood(s) || !allWithin(impl.MaxXY, by) {
		return nil, false
	}
	var moved []impl.Point
	for _, p := range s {
		moved = append(moved, impl.Point{X: p.X + by.X, Y: p.Y + by.Y})
	}
	return moved, allWithin(impl.MaxXY, moved...)
}

func modelTurn(s []impl.Point) ([]impl.Point, bool) {
	if !modelGood(s) {
		return nil, false
	}
	var turned []impl.Point
	for _, p := range s {
		turned = append(turned, impl.Point{X: -p.Y, Y: p.X})
	}
	return ordered(turned), true
}

// behind is what lies behind the length of a laid list: a good point, so that a function that read it would not stumble over it.
var behind = impl.Point{X: 77, Y: -77}

// laid is a list with room behind its length, and what its memory held at first.
type laid struct {
	list  []impl.Point
	whole []impl.Point
	first []impl.Point
}

func lay(l []impl.Point, room int) laid {
	whole := slices.Clone(l)
	for range room {
		whole = append(whole, behind)
	}
	whole = slices.Clip(whole)
	return laid{list: whole[:len(l)], whole: whole, first: slices.Clone(whole)}
}

func (l laid) untouched() bool {
	return slices.Equal(l.whole, l.first)
}

// checkOwn asks that arguments are as they were, and stay so whatever is written into all of the answer's memory, and that none of it held what lay behind their lengths.
func checkOwn(t *testing.T, name string, answer []impl.Point, arguments ...laid) {
	t.Helper()
	for _, a := range arguments {
		if !a.untouched() {
			t.Fatalf("%s has written into %v", name, a.first)
		}
	}
	whole := answer[:cap(answer)]
	if slices.Contains(whole[len(answer):], behind) {
		t.Fatalf("%s hands out what lies behind a list", name)
	}
	for i := range whole {
		whole[i] = impl.Point{X: -1234567, Y: 7654321}
	}
	for _, a := range arguments {
		if !a.untouched() {
			t.Fatalf("%s shares memory with %v", name, a.first)
		}
	}
}

// checkList holds an answer against the wanted one, and asks that it is memory of its own.
func checkList(t *testing.T, name string, answer []impl.Point, ok bool, want []impl.Point, is bool, arguments ...laid) {
	t.Helper()
	if !is {
		want = nil
	}
	if ok != is || !slices.Equal(answer, want) {
		t.Fatalf("%s = %v, %v; want %v, %v", name, answer, ok, want, is)
	}
	checkOwn(t, name, answer, arguments...)
}

// line has n points of a row that rises from (x, y) by the step.
func line(n, x, y int, step impl.Point) []impl.Point {
	var l []impl.Point
	for i := range n {
		l = append(l, impl.Point{X: x + i*step.X, Y: y + i*step.Y})
	}
	return l
}

// rightward has n points, the next one of each one to the right.
func rightward(n, from int) []impl.Point {
	return line(n, from, 0, impl.Point{X: 1})
}
