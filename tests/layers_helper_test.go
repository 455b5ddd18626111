package tests

import (
	"slices"
	"testing"

	"loop.example/g00780/impl"
)

// The models say chapter 9 with no hull, and share nothing with the program: a point is on the rim where all others are on one side of a way through it, and depths are counted word by word, or in every half plane.

// isOnRim says of a point of s whether there is a point such that none is right of the way from p to it.
func isOnRim(s []impl.Point, p impl.Point) bool {
	return len(s) == 1 || slices.ContainsFunc(s, func(to impl.Point) bool {
		return to != p && !slices.ContainsFunc(s, func(o impl.Point) bool { return cross(p, to, o) < 0 })
	})
}

// modelRimOf parts a good set into its rim and the rest.
func modelRimOf(s []impl.Point) (rim, rest []impl.Point) {
	for _, p := range s {
		if isOnRim(s, p) {
			rim = append(rim, p)
		} else {
			rest = append(rest, p)
		}
	}
	return rim, rest
}

func modelLayers(s []impl.Point) ([][]impl.Point, bool) {
	if !modelGood(s) {
		return nil, false
	}
	var layers [][]impl.Point
	for len(s) > 0 {
		rim, rest := modelRimOf(s)
		layers = append(layers, rim)
		s = rest
	}
	return layers, true
}

func modelLayerOf(s []impl.Point, p impl.Point) (int, bool) {
	layers, _ := modelLayers(s)
	k := slices.IndexFunc(layers, func(l []impl.Point) bool { return slices.Contains(l, p) })
	return max(k, 0), k >= 0
}

func modelWithout(s []impl.Point) ([]impl.Point, bool) {
	if !modelGood(s) {
		return nil, false
	}
	_, rest := modelRimOf(s)
	return rest, true
}

func modelPeel(s []impl.Point, most int) ([]impl.Point, bool) {
	if !modelGood(s) || most < 0 || most > impl.MaxPoints {
		return nil, false
	}
	left := slices.Clone(s)
	for len(left) > most {
		_, left = modelRimOf(left)
	}
	return left, true
}

// modelDepth counts what the document says, for each point and for the one as far on the other side.
func modelDepth(s []impl.Point, q impl.Point) (int, bool) {
	if !modelGood(s) || !allWithin(impl.MaxXY, q) {
		return 0, false
	}
	var counts []int
	for _, p := range s {
		if p == q {
			continue
		}
		for _, r := range []impl.Point{p, grown(p, -1, grown(q, 2, impl.Point{}))} {
			counts = append(counts, besideWay(s, q, r, 1), besideWay(s, q, r, -1))
		}
	}
	if len(counts) == 0 {
		return len(s), true
	}
	return slices.Min(counts), true
}

// besideWay counts q itself, what is left of the way from q to r, and what is on it ahead of q, or behind q where ahead is -1.
func besideWay(s []impl.Point, q, r impl.Point, ahead int) int {
	n := 0
	way := grown(q, -1, r)
	for _, o := range s {
		side, far := cross(q, r, o), dot(way, grown(q, -1, o))
		if o == q || side > 0 || side == 0 && far*ahead > 0 {
			n++
		}
	}
	return n
}

// depthAround is the least number of points in a closed half plane with q on its edge, found with no words of the document's: nothing but an edge through a point makes the number another one, so it is asked for between each two ways that follow one another round q, along the points and square to them.
func depthAround(s []impl.Point, q impl.Point) int {
	ways := []impl.Point{{X: 1}, {X: -1}, {Y: 1}, {Y: -1}}
	for _, p := range s {
		if p != q {
			w := grown(q, -1, p)
			ways = append(ways, w, grown(w, -1, impl.Point{}), impl.Point{X: -w.Y, Y: w.X}, impl.Point{X: w.Y, Y: -w.X})
		}
	}
	slices.SortFunc(ways, byAngle)
	least := len(s)
	for k, w := range ways {
		next := ways[(k+1)%len(ways)]
		// Where both look alike this is one of them, whose number is not less.
		look := grown(w, 1, next)
		n := 0
		for _, o := range s {
			if dot(look, grown(q, -1, o)) >= 0 {
				n++
			}
		}
		least = min(least, n)
	}
	return least
}

// checkLayers holds promise 9 for one good set.
func checkLayers(t *testing.T, s []impl.Point) [][]impl.Point {
	t.Helper()
	layers, ok := impl.LayersOf(s)
	if want, _ := modelLayers(s); !ok || !sameLists(layers, want) {
		t.Fatal("LayersOf", s, layers, ok, want)
	}
	if n, ok := impl.ManyLayers(s); n != len(layers) || !ok {
		t.Fatal("ManyLayers", s, n, ok)
	}
	if all := slices.Concat(layers...); len(all) != len(s) || !slices.Equal(ordered(all), s) {
		t.Fatal("not each point in one layer", s, layers)
	}
	left := s
	for k, layer := range layers {
		for _, p := range layer {
			if at, ok := impl.LayerOf(s, p); at != k || !ok {
				t.Fatal("LayerOf", s, p, at, ok, k)
			}
		}
		checkInLayer(t, layer, slices.Concat(layers[k+1:]...))
		next, ok := impl.WithoutHull(left)
		if want := ordered(slices.Concat(layers[k+1:]...)); !ok || !slices.Equal(next, want) {
			t.Fatal("WithoutHull", left, next, ok, want)
		}
		left = next
	}
	return layers
}

// checkInLayer asks that a layer is all rim, and the deeper ones are all inside.
func checkInLayer(t *testing.T, layer, deeper []impl.Point) {
	t.Helper()
	if len(layer) == 0 || !impl.GoodSet(layer) {
		t.Fatal("no layer", layer)
	}
	h, _ := impl.HullOf(layer)
	for _, p := range layer {
		if where, ok := impl.WhereIs(h, p); where != impl.WhRim || !ok {
			t.Fatal("not on the rim of its layer", layer, p, where, ok)
		}
	}
	for _, p := range deeper {
		if where, ok := impl.WhereIs(h, p); where != impl.WhIn || !ok {
			t.Fatal("not inside the layer ahead", layer, p, where, ok)
		}
	}
}

// checkPeels asks for each number of points that may be left.
func checkPeels(t *testing.T, s []impl.Point) {
	t.Helper()
	layers, _ := modelLayers(s)
	for most := range impl.MaxPoints + 1 {
		left, ok := impl.PeelTo(s, most)
		k := 0
		for len(slices.Concat(layers[k:]...)) > most {
			k++
		}
		if want := ordered(slices.Concat(layers[k:]...)); !ok || !slices.Equal(left, want) {
			t.Fatal("PeelTo", s, most, left, ok, want)
		}
	}
}

// checkDepth holds DepthOf for a good set and a good point against the words, against all half planes, and against the layers: each layer round the point has a corner in each half plane.
func checkDepth(t *testing.T, s []impl.Point, q impl.Point) int {
	t.Helper()
	depth, ok := impl.DepthOf(s, q)
	if want, _ := modelDepth(s, q); depth != want || !ok {
		t.Fatal("DepthOf", s, q, depth, ok, want)
	}
	if want := depthAround(s, q); depth != want {
		t.Fatal("DepthOf, and half planes", s, q, depth, want)
	}
	round := 0
	layers, _ := modelLayers(s)
	for round < len(layers) && placeIn(sideBySide(layers[round]), q) != impl.WhOut {
		round++
	}
	if depth < round || (depth == 0) != (round == 0) {
		t.Fatal("DepthOf, and layers", s, q, depth, round, layers)
	}
	return depth
}

// nested has so many triangles, one inside the next one, with 0, 0 inside of all, and that grow by so much.
func nested(many, by int) []impl.Point {
	var l []impl.Point
	for k := 1; k <= many; k++ {
		l = append(l, impl.Point{X: -k * by, Y: -k * by}, impl.Point{X: 2 * k * by, Y: -k * by}, impl.Point{X: -k * by, Y: 2 * k * by})
	}
	return ordered(l)
}

// with has a set with some points more.
func with(s []impl.Point, more ...impl.Point) []impl.Point {
	return ordered(slices.Concat(s, more))
}

// frame has the points on the sides of a square with so many on each, and none inside.
func frame(side int) []impl.Point {
	return slices.DeleteFunc(grid(side), func(p impl.Point) bool {
		return p.X > 0 && p.Y > 0 && p.X < side-1 && p.Y < side-1
	})
}
