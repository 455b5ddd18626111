package tests

import (
	"math"
	"slices"
	"testing"

	"loop.example/g00780/impl"
)

// checkAnyLayers asks all of chapter 9, with a list that has that much room behind its length.
func checkAnyLayers(t *testing.T, l []impl.Point, p impl.Point, most, room int) {
	t.Helper()
	was := p
	list := lay(l, room)
	checkOwnLayers(t, list)
	k, ok := impl.LayerOf(list.list, p)
	if want, is := modelLayerOf(l, p); k != want || ok != is {
		t.Fatal("LayerOf", l, p, k, ok)
	}
	layers, is := modelLayers(l)
	if n, ok := impl.ManyLayers(list.list); n != len(layers) || ok != is {
		t.Fatal("ManyLayers", l, n, ok)
	}
	depth, ok := impl.DepthOf(list.list, p)
	if want, is := modelDepth(l, p); depth != want || ok != is {
		t.Fatal("DepthOf", l, p, depth, ok)
	}
	checkOwn(t, "LayerOf, ManyLayers or DepthOf", nil, list)
	rest, ok := impl.WithoutHull(list.list)
	want, is := modelWithout(l)
	checkList(t, "WithoutHull", rest, ok, want, is, list)
	rest, ok = impl.PeelTo(list.list, most)
	want, is = modelPeel(l, most)
	checkList(t, "PeelTo", rest, ok, want, is, list)
	if p != was {
		t.Fatal("written into", was, p)
	}
}

// checkOwnLayers asks that each layer is memory of its own: whatever is written into all of its memory, the others and the set are as they were.
func checkOwnLayers(t *testing.T, set laid) {
	t.Helper()
	want, is := modelLayers(set.list)
	layers, ok := impl.LayersOf(set.list)
	if !sameLists(layers, want) || ok != is {
		t.Fatal("LayersOf", set.list, layers, ok)
	}
	for _, list := range layers[len(layers):cap(layers)] {
		if len(list) != 0 {
			t.Fatal("behind the layers", layers, list)
		}
	}
	for i, list := range layers {
		checkOwn(t, "LayersOf", list, set)
		if !sameLists(layers[i+1:], want[i+1:]) {
			t.Fatal("two layers share memory", set.list, i)
		}
	}
	checkOwn(t, "LayersOf", nil, set)
}

// setsOfLayers are good sets of many layers and of one.
func setsOfLayers() [][]impl.Point {
	return [][]impl.Point{
		nested(20, 25000), with(nested(19, 26000), impl.Point{}), with(nested(19, 26000), impl.Point{X: 1}, impl.Point{X: 2}), frame(16), field(12, 5),
		field(10, 6), grid(7), rightward(impl.MaxPoints, -30), ordered(wheel()), with(widest(), impl.Point{}), nested(3, 2), grid(2),
	}
}

func TestPromise18AnyLayers(t *testing.T) {
	mosts := []int{0, 1, 9, 30, impl.MaxPoints - 1, impl.MaxPoints, impl.MaxPoints + 1, -1, math.MinInt, math.MaxInt}
	for _, room := range []int{0, 1, 200} {
		for i, l := range append(append(ringLists(), notHulls()...), setsOfLayers()...) {
			for k, most := range append(mosts, len(l), len(l)-1) {
				checkAnyLayers(t, l, anyPoints()[(i+k)%len(anyPoints())], most, room)
			}
			for k := 0; k < len(l) && k < 9; k++ {
				checkAnyLayers(t, l, l[(k*7)%len(l)], k, room)
			}
		}
	}
	for _, p := range anyPoints() {
		for _, l := range [][]impl.Point{nil, {{}}, {p}, grid(4), with(widest(), impl.Point{}), nested(20, 25000)} {
			checkAnyLayers(t, l, p, 3, 1)
		}
	}
}

// What lies behind a list may be the rest of a set.
func TestPromise18PartsOfLayers(t *testing.T) {
	for _, whole := range setsOfLayers() {
		was := slices.Clone(whole)
		for k := range whole {
			part := was[:k:k]
			layers, ok := impl.LayersOf(whole[:k])
			if want, is := modelLayers(part); ok != is || !sameLists(layers, want) {
				t.Fatal("LayersOf a part", whole, k, layers, ok)
			}
			at, ok := impl.LayerOf(whole[:k], whole[k])
			if at != 0 || ok {
				t.Fatal("LayerOf what lies behind", whole, k, at, ok)
			}
			depth, ok := impl.DepthOf(whole[:k], whole[k])
			if want, is := modelDepth(part, whole[k]); depth != want || ok != is {
				t.Fatal("DepthOf a part", whole, k, depth, ok)
			}
			rest, ok := impl.WithoutHull(whole[:k])
			if want, is := modelWithout(part); ok != is || !slices.Equal(rest, want) {
				t.Fatal("WithoutHull a part", whole, k, rest, ok)
			}
			rest, ok = impl.PeelTo(whole[:k], k/2)
			if want, is := modelPeel(part, k/2); ok != is || !slices.Equal(rest, want) {
				t.Fatal("PeelTo a part", whole, k, rest, ok)
			}
			if !slices.Equal(whole, was) {
				t.Fatal("written into a list or behind it", was, whole)
			}
		}
	}
}

// One point of a good set is changed for one that is not good, out of order or there twice.
func TestPromise18OnePointWrongLayers(t *testing.T) {
	for _, n := range []int{1, 2, 3, 4, 9, 17, impl.MaxPoints} {
		s := append(grid(7), rightward(11, 100)...)[:n]
		for place := range n {
			for i, p := range anyPoints() {
				l := slices.Clone(s)
				l[place] = p
				checkAnyLayers(t, l, s[place], n/2, i%3)
				checkAnyLayers(t, l, p, i, i%3)
			}
		}
	}
}

func TestPromise18ManyLayers(t *testing.T) {
	n := numbers{state: 93}
	for range 1500 {
		most := []int{1, 3, 9, 1000, impl.MaxXY, impl.MaxXY + 1}[n.word()%6]
		l := someList(&n, most)
		p := n.point(most)
		if len(l) > 0 && n.word()%2 == 0 {
			p = l[n.word()%uint64(len(l))]
		}
		checkAnyLayers(t, l, p, n.within(impl.MaxPoints+2), int(n.word()%4))
	}
}

// Nothing is kept: what is asked again is told again, whatever was asked between, and whatever was written into what was told.
func TestPromise18LayersAskedAgain(t *testing.T) {
	for range 3 {
		for i, s := range setsOfLayers() {
			checkAnyLayers(t, s, s[len(s)/2], 7, i%3)
			checkAnyLayers(t, reversed(s), s[0], 7, i%3)
			first, _ := impl.LayersOf(s)
			again, ok := impl.LayersOf(s)
			for _, list := range first {
				list[0] = impl.Point{X: 9, Y: 9}
			}
			clear(first)
			if want, _ := modelLayers(s); !ok || !sameLists(again, want) {
				t.Fatal("LayersOf asked again", s, again, ok)
			}
		}
	}
}
