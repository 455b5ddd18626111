package tests

import (
	"math"
	"slices"
	"testing"

	"loop.example/g00780/impl"
)

// checkNearAndFar asks all of chapter 10, with a list that has that much room behind its length.
func checkNearAndFar(t *testing.T, l []impl.Point, p, q impl.Point, most, room int) {
	t.Helper()
	was := [2]impl.Point{p, q}
	list := lay(l, room)
	n, ok := impl.ApartOf(p, q)
	if want, is := modelApart(p, q); n != want || ok != is {
		t.Fatal("ApartOf", p, q, n, ok)
	}
	a, b, ok := impl.NearestOf(list.list)
	if c, d, is := modelTwo(l, slices.Min); a != c || b != d || ok != is {
		t.Fatal("NearestOf", l, a, b, ok)
	}
	n, ok = impl.NearestByHalves(list.list)
	if want, is := modelByHalves(l); n != want || ok != is {
		t.Fatal("NearestByHalves", l, n, ok)
	}
	a, b, ok = impl.FarthestOf(list.list)
	if c, d, is := modelTwo(l, slices.Max); a != c || b != d || ok != is {
		t.Fatal("FarthestOf", l, a, b, ok)
	}
	a, ok = impl.NextTo(list.list, q)
	if want, is := modelNext(l, q); a != want || ok != is {
		t.Fatal("NextTo", l, q, a, ok)
	}
	checkOwn(t, "one of NearestOf to NextTo", nil, list)
	want, is := modelWithin(l, q, most)
	within, ok := impl.WithinOf(list.list, q, most)
	checkList(t, "WithinOf", within, ok, want, is, list)
	checkOwnAcross(t, list)
	if was != [2]impl.Point{p, q} {
		t.Fatal("written into", was, p, q)
	}
}

// checkOwnAcross asks that each pair that AcrossOf tells is memory of its own, and that nothing lies behind them.
func checkOwnAcross(t *testing.T, list laid) {
	t.Helper()
	pairs, ok := impl.AcrossOf(list.list)
	if want, is := modelAcross(list.list); ok != is || !samePairs(pairs, want) {
		t.Fatal("AcrossOf", list.list, pairs, ok)
	}
	for _, l := range pairs[len(pairs):cap(pairs)] {
		if len(l) != 0 {
			t.Fatal("behind the pairs", pairs, l)
		}
	}
	checkApart(t, "AcrossOf", pairs)
	checkOwn(t, "AcrossOf", nil, list)
}

// hullsOfPairs are good hulls, with sides that run alike and without.
func hullsOfPairs() [][]impl.Point {
	return append(fullHulls(), squareHull(), squareHull()[:3], widest(), bowl(9), eyeRound(10), wheel(), []impl.Point{{}, {X: 5, Y: -1}, {X: 20}, {X: 5, Y: 1}})
}

func TestPromise18AnyNearAndFar(t *testing.T) {
	mosts := []int{0, 1, 25, 8 * impl.MaxXY * impl.MaxXY, math.MaxInt, -1, math.MinInt}
	for _, room := range []int{0, 1, 200} {
		for i, l := range slices.Concat(ringLists(), notHulls(), setsOfLayers(), hullsOfPairs()) {
			for k, most := range mosts {
				p, q := anyPoints()[(i+k)%len(anyPoints())], anyPoints()[(3*i+k*k)%len(anyPoints())]
				checkNearAndFar(t, l, p, q, most, room)
			}
			if len(l) > 0 {
				checkNearAndFar(t, l, l[len(l)-1], l[len(l)/2], i, room)
			}
		}
	}
	for _, p := range anyPoints() {
		for _, q := range anyPoints() {
			for _, l := range [][]impl.Point{nil, {{}}, {p}, {p, q}, grid(3), with(widest(), impl.Point{})} {
				checkNearAndFar(t, l, p, q, 9, 1)
			}
		}
	}
}

// What lies behind a list may be the rest of a set, or of a hull.
func TestPromise18PartsNearAndFar(t *testing.T) {
	for _, whole := range append(setsOfLayers(), hullsOfPairs()...) {
		was := slices.Clone(whole)
		for k := range whole {
			part := was[:k:k]
			a, b, ok := impl.NearestOf(whole[:k])
			if c, d, is := modelTwo(part, slices.Min); a != c || b != d || ok != is {
				t.Fatal("NearestOf a part", whole, k, a, b, ok)
			}
			least, ok := impl.NearestByHalves(whole[:k])
			if want, is := modelByHalves(part); least != want || ok != is {
				t.Fatal("NearestByHalves of a part", whole, k, least, ok)
			}
			p, ok := impl.NextTo(whole[:k], whole[k])
			if want, is := modelNext(part, whole[k]); p != want || ok != is {
				t.Fatal("NextTo what lies behind", whole, k, p, ok)
			}
			l, ok := impl.WithinOf(whole[:k], whole[k], math.MaxInt)
			if want, is := modelWithin(part, whole[k], math.MaxInt); ok != is || !slices.Equal(l, want) {
				t.Fatal("WithinOf a part", whole, k, l, ok)
			}
			pairs, ok := impl.AcrossOf(whole[:k])
			if want, is := modelAcross(part); ok != is || !samePairs(pairs, want) {
				t.Fatal("AcrossOf a part", whole, k, pairs, ok)
			}
			if !slices.Equal(whole, was) {
				t.Fatal("written into a list or behind it", was, whole)
			}
		}
	}
}

// One point of a good set, or hull, is changed for one that is not good, out of order or there twice.
func TestPromise18OnePointWrongNearAndFar(t *testing.T) {
	for _, n := range []int{1, 2, 3, 4, 9, 17, impl.MaxPoints} {
		for place := range n {
			for i, p := range anyPoints() {
				for _, l := range [][]impl.Point{bowl(n), rightward(n, -n/2)} {
					q := l[n/2]
					l[place] = p
					checkNearAndFar(t, l, q, p, i, i%3)
					checkNearAndFar(t, l, p, q, n, i%3)
				}
			}
		}
	}
}

func TestPromise18ManyNearAndFar(t *testing.T) {
	n := numbers{state: 102}
	for range 2000 {
		most := []int{1, 3, 9, 1000, impl.MaxXY, impl.MaxXY + 1}[n.word()%6]
		l := someList(&n, most)
		if n.word()%3 == 0 {
			l, _ = modelHull(ordered(l))
		}
		p, q := n.point(most), n.point(most)
		if len(l) > 0 && n.word()%2 == 0 {
			q = l[n.word()%uint64(len(l))]
		}
		checkNearAndFar(t, l, p, q, n.pick([]int{apart(p, q), 0, most, most * most, n.within(most)}), int(n.word()%4))
	}
}

// Nothing is kept: what is asked again is told again, whatever was asked between, and whatever was written into what was told.
func TestPromise18NearAndFarAskedAgain(t *testing.T) {
	for range 3 {
		for i, h := range hullsOfPairs() {
			checkNearAndFar(t, h, h[0], h[1], 9, i%3)
			checkNearAndFar(t, ordered(h), h[1], h[0], 9, i%3)
			checkNearAndFar(t, reversed(h), h[1], h[0], 9, i%3)
			first, _ := impl.AcrossOf(h)
			again, ok := impl.AcrossOf(h)
			for _, l := range first {
				clear(l)
			}
			clear(first)
			if want, _ := modelAcross(h); !ok || !samePairs(again, want) {
				t.Fatal("AcrossOf asked again", h, again, ok)
			}
			s := ordered(h)
			one, _ := impl.WithinOf(s, s[0], math.MaxInt)
			two, ok := impl.WithinOf(s, s[0], math.MaxInt)
			clear(one)
			if !ok || !slices.Equal(two, s) {
				t.Fatal("WithinOf asked again", s, two, ok)
			}
		}
	}
}
