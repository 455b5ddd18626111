package tests

import (
	"slices"
	"testing"

	"loop.example/g00780/impl"
)

// The models say chapter 10's words over all pairs, all points and all directions of the sides, and share nothing with the program.

func modelApart(a, b impl.Point) (int, bool) {
	if !allWithin(impl.MaxXY, a, b) {
		return 0, false
	}
	return apart(a, b), true
}

// modelTwo tells the first two points that are as far apart as is picked of all that any two are: slices.Min for the nearest ones, slices.Max for the farthest.
func modelTwo(s []impl.Point, pick func([]int) int) (impl.Point, impl.Point, bool) {
	if !modelGood(s) || len(s) < 2 {
		return impl.Point{}, impl.Point{}, false
	}
	var all []int
	for i, a := range s {
		for _, b := range s[:i] {
			all = append(all, apart(a, b))
		}
	}
	wanted := pick(all)
	for i, a := range s {
		k := slices.IndexFunc(s[i+1:], func(b impl.Point) bool { return apart(a, b) == wanted })
		if k >= 0 {
			return a, s[i+1+k], true
		}
	}
	panic("no two are so far apart")
}

func modelByHalves(s []impl.Point) (int, bool) {
	a, b, ok := modelTwo(s, slices.Min)
	return apart(a, b), ok
}

func modelNext(s []impl.Point, q impl.Point) (impl.Point, bool) {
	if !modelGood(s) || len(s) == 0 || !allWithin(impl.MaxXY, q) {
		return impl.Point{}, false
	}
	return slices.MinFunc(s, func(a, b impl.Point) int {
		if apart(a, q) != apart(b, q) {
			return apart(a, q) - apart(b, q)
		}
		return before(a, b)
	}), true
}

func modelWithin(s []impl.Point, q impl.Point, most int) ([]impl.Point, bool) {
	if !modelGood(s) || !allWithin(impl.MaxXY, q) || most < 0 {
		return nil, false
	}
	return slices.DeleteFunc(slices.Clone(s), func(p impl.Point) bool { return apart(p, q) > most }), true
}

// heldAt tells the points of h with none to the right of the way through them that looks along d.
func heldAt(h []impl.Point, d impl.Point) []int {
	var held []int
	for i, p := range h {
		if !slices.ContainsFunc(h, func(o impl.Point) bool { return cross(p, grown(p, 1, d), o) < 0 }) {
			held = append(held, i)
		}
	}
	return held
}

func modelAcross(h []impl.Point) ([][]int, bool) {
	if !modelGoodHull(h) || len(h) < 3 {
		return nil, false
	}
	var pairs [][]int
	eachSide(h, func(a, b impl.Point) {
		d := grown(a, -1, b)
		for _, i := range heldAt(h, d) {
			for _, j := range heldAt(h, grown(d, -1, impl.Point{})) {
				pairs = append(pairs, []int{min(i, j), max(i, j)})
			}
		}
	})
	slices.SortFunc(pairs, slices.Compare)
	return slices.CompactFunc(pairs, slices.Equal), true
}

func samePairs(a, b [][]int) bool {
	return slices.EqualFunc(a, b, slices.Equal)
}

// checkTwo holds promise 10 for a good set.
func checkTwo(t *testing.T, s []impl.Point) {
	t.Helper()
	a, b, ok := impl.NearestOf(s)
	if p, q, is := modelTwo(s, slices.Min); a != p || b != q || ok != is {
		t.Fatal("NearestOf", s, a, b, ok, p, q)
	}
	least, halved := impl.NearestByHalves(s)
	c, d, told := impl.FarthestOf(s)
	if p, q, is := modelTwo(s, slices.Max); c != p || d != q || told != is || halved != is || ok != is {
		t.Fatal("FarthestOf", s, c, d, told, p, q, halved)
	}
	if len(s) < 2 {
		if least != 0 || halved {
			t.Fatal("NearestByHalves", s, least, halved)
		}
		return
	}
	if n, ok := impl.ApartOf(a, b); n != least || !ok || n != apart(a, b) {
		t.Fatal("NearestByHalves and ApartOf", s, a, b, least, n, ok)
	}
	most, _ := impl.ApartOf(c, d)
	for i, p := range s {
		for _, q := range s[i+1:] {
			if n, ok := impl.ApartOf(q, p); n < least || n > most || !ok {
				t.Fatal("nearer than the nearest or farther than the farthest", s, p, q, n, ok, least, most)
			}
		}
	}
	checkStandAcross(t, s, c, d)
	checkNeighbours(t, s, a, b)
}

// checkStandAcross asks that two points of a set are across in its hull, or all of it.
func checkStandAcross(t *testing.T, s []impl.Point, a, b impl.Point) {
	t.Helper()
	h, _ := impl.HullOf(s)
	i, j := slices.Index(h, a), slices.Index(h, b)
	if i < 0 || j < 0 {
		t.Fatal("the farthest are no corners", s, h, a, b)
	}
	pairs, ok := impl.AcrossOf(h)
	if len(h) < 3 {
		if len(h) != 2 || i == j || pairs != nil || ok {
			t.Fatal("AcrossOf two points", h, pairs, ok)
		}
		return
	}
	if !ok || !slices.ContainsFunc(pairs, func(l []int) bool { return slices.Equal(l, []int{min(i, j), max(i, j)}) }) {
		t.Fatal("the farthest do not stand across", s, h, i, j, pairs, ok)
	}
}

// checkNeighbours asks that each of the nearest two is as near to the other one as any other point, and that no point has a nearer one.
func checkNeighbours(t *testing.T, s []impl.Point, a, b impl.Point) {
	t.Helper()
	for _, p := range s {
		others, _ := impl.DropPoint(s, p)
		q, ok := impl.NextTo(others, p)
		if n := apart(p, q); !ok || n < apart(a, b) || (p == a || p == b) && n != apart(a, b) || p == a && q != b {
			t.Fatal("NextTo and NearestOf", s, p, q, ok, a, b)
		}
	}
}

// checkAround asks NextTo, and WithinOf for each most that is met and those beside it, of a good set and a good point.
func checkAround(t *testing.T, s []impl.Point, q impl.Point) {
	t.Helper()
	next, ok := impl.NextTo(s, q)
	if want, is := modelNext(s, q); next != want || ok != is {
		t.Fatal("NextTo", s, q, next, ok, want)
	}
	all := 0
	for _, p := range s {
		all = max(all, apart(p, q))
		for _, most := range []int{apart(p, q) - 1, apart(p, q), apart(p, q) + 1} {
			checkWithin(t, s, q, most)
		}
	}
	for _, most := range []int{0, all, all + 1, 8 * impl.MaxXY * impl.MaxXY} {
		checkWithin(t, s, q, most)
	}
	if !ok {
		return
	}
	least := apart(next, q)
	if l, ok := impl.WithinOf(s, q, least); !ok || len(l) == 0 || l[0] != next {
		t.Fatal("WithinOf and NextTo", s, q, next, l, ok)
	}
	if l, ok := impl.WithinOf(s, q, least-1); len(l) > 0 || ok != (least > 0) {
		t.Fatal("WithinOf nearer than NextTo", s, q, next, l, ok)
	}
	if slices.Contains(s, q) != (next == q) {
		t.Fatal("NextTo itself", s, q, next)
	}
}

func checkWithin(t *testing.T, s []impl.Point, q impl.Point, most int) {
	t.Helper()
	l, ok := impl.WithinOf(s, q, most)
	if want, is := modelWithin(s, q, most); ok != is || !slices.Equal(l, want) {
		t.Fatal("WithinOf", s, q, most, l, ok, want)
	}
	if ok && !impl.GoodSet(l) {
		t.Fatal("WithinOf tells no set", s, q, most, l)
	}
}

// checkAcross holds AcrossOf for a good hull of three points at least against the words, and asks for as many pairs as there are: one more for each side, the first being met again after half a round, but two sides that run alike are passed at once, and make one more yet.
func checkAcross(t *testing.T, h []impl.Point) [][]int {
	t.Helper()
	pairs, ok := impl.AcrossOf(h)
	if want, is := modelAcross(h); !ok || !is || !samePairs(pairs, want) {
		t.Fatal("AcrossOf", h, pairs, ok, want)
	}
	many := len(h)
	for i := range h {
		for j := range i {
			if cross(impl.Point{}, sideFrom(h, i), sideFrom(h, j)) == 0 {
				many++
			}
		}
	}
	met := map[int]int{}
	for k, l := range pairs {
		if len(l) != 2 || l[0] < 0 || l[0] >= l[1] || l[1] >= len(h) || k > 0 && slices.Compare(pairs[k-1], l) >= 0 {
			t.Fatal("AcrossOf is not rising, or no pairs", h, pairs)
		}
		met[l[0]]++
		met[l[1]]++
	}
	if len(pairs) != many || len(met) != len(h) {
		t.Fatal("AcrossOf has not as many pairs", h, pairs, many)
	}
	return pairs
}

func sideFrom(h []impl.Point, k int) impl.Point {
	return grown(h[k], -1, h[(k+1)%len(h)])
}

// checkDifferences asks that two points are across where their difference is on the rim of all differences.
func checkDifferences(t *testing.T, h []impl.Point) {
	t.Helper()
	var all []impl.Point
	for _, a := range h {
		all = append(all, shifted(h, grown(a, -1, impl.Point{}))...)
	}
	round := sideBySide(ordered(all))
	var want [][]int
	for i := range h {
		for j := i + 1; j < len(h); j++ {
			if placeIn(round, grown(h[j], -1, h[i])) == impl.WhRim {
				want = append(want, []int{i, j})
			}
		}
	}
	if pairs, ok := impl.AcrossOf(h); !ok || !samePairs(pairs, want) {
		t.Fatal("AcrossOf and differences", h, pairs, ok, want)
	}
}
