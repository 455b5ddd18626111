package tests

import (
	"math"
	"slices"
	"testing"

	"loop.example/g00780/impl"
)

// All sets of the points of a square of three by three, here, at a corner of all good points and at one of the small ones.
func TestPromise11AllSmallSets(t *testing.T) {
	square := grid(3)
	for k := range 1 << len(square) {
		s := subset(square, k)
		cut := checkTriangles(t, s)
		checkRound(t, s)
		checkFlips(t, s, cut)
		if far := checkTriangles(t, shifted(s, impl.Point{X: impl.MaxXY - 2, Y: -impl.MaxXY})); !samePairs(far, cut) {
			t.Fatal("Triangles far off", s, far, cut)
		}
		checkRound(t, shifted(s, impl.Point{X: -small, Y: small - 2}))
	}
}

// All sets of the points of a field of four by three, wide and high.
func TestPromise11AllSetsOfAField(t *testing.T) {
	wide, high := field(4, 3), field(3, 4)
	turned := 0
	for k := range 1 << len(wide) {
		for _, l := range [][]impl.Point{wide, high} {
			s := subset(l, k)
			checkTriangles(t, s)
			turned += checkRound(t, s)
			if k%8 == 0 {
				round, _, _ := impl.RoundOf(s)
				checkFlips(t, s, round)
			}
		}
	}
	if turned < 1000 {
		t.Error("so few turns", turned)
	}
}

func TestPromise11ManySets(t *testing.T) {
	n := numbers{state: 110}
	for i := range 240 {
		most := []int{2, 4, 9, 60, small}[n.word()%5]
		s := someSet(&n, most)
		if i%20 == 0 {
			s = manyPoints(&n, most)
		}
		cut := checkTriangles(t, s)
		checkRound(t, s)
		if i%4 == 0 {
			checkFlips(t, s, cut)
		}
		great := make([]impl.Point, len(s))
		for k, p := range s {
			great[k] = grown(p, impl.MaxXY/small, impl.Point{})
		}
		if l := checkTriangles(t, great); !samePairs(l, cut) {
			t.Fatal("Triangles grown", s, l, cut)
		}
	}
	for range 9 {
		checkTriangles(t, manyPoints(&n, impl.MaxXY))
	}
}

func TestPromise11NamedTriangles(t *testing.T) {
	m := impl.MaxXY
	for _, c := range []struct {
		s    []impl.Point
		want [][]int
	}{
		// Fewer than three, or all in one line.
		{nil, nil},
		{[]impl.Point{}, nil},
		{[]impl.Point{{X: 3, Y: -4}}, nil},
		{[]impl.Point{{X: -m, Y: m}, {X: m, Y: -m}}, nil},
		{rightward(3, 0), nil},
		{line(5, -4, 6, impl.Point{X: 2, Y: -3}), nil},
		{line(impl.MaxPoints, m, -m, impl.Point{Y: 33898}), nil},
		{rightward(impl.MaxPoints, -30), nil},
		// Three, to the left and to the right.
		{[]impl.Point{{}, {X: 1}, {X: 1, Y: 1}}, [][]int{{0, 1, 2}}},
		{[]impl.Point{{}, {X: 1, Y: 1}, {X: 2}}, [][]int{{0, 2, 1}}},
		{[]impl.Point{{X: -m, Y: -m}, {X: -m, Y: m}, {X: m, Y: m}}, [][]int{{0, 2, 1}}},
		{[]impl.Point{{X: -m, Y: -m}, {X: m, Y: -m}, {X: m, Y: m}}, [][]int{{0, 1, 2}}},
		{[]impl.Point{{X: -m, Y: m}, {X: m - 1, Y: 1 - m}, {X: m, Y: -m + 1}}, [][]int{{0, 1, 2}}},
		// The first ones in one line, and one left of it, or right of it: the way there or the way back.
		{with(rightward(3, 0), impl.Point{X: 5, Y: 1}), [][]int{{0, 1, 3}, {1, 2, 3}}},
		{with(rightward(3, 0), impl.Point{X: 5, Y: -1}), [][]int{{0, 3, 1}, {1, 3, 2}}},
		{[]impl.Point{{}, {Y: 1}, {Y: 2}, {X: 1}}, [][]int{{0, 3, 1}, {1, 3, 2}}},
		{[]impl.Point{{}, {Y: 1}, {Y: 2}, {X: 1, Y: 1}}, [][]int{{0, 3, 1}, {1, 3, 2}}},
		{[]impl.Point{{X: -m, Y: -m}, {}, {X: m, Y: m - 1}, {X: m, Y: m}}, [][]int{{0, 2, 1}, {1, 2, 3}}},
		// A new one in line with a side sees nothing of it, but what is behind the end of it.
		{[]impl.Point{{}, {Y: 4}, {X: 2}, {X: 4}}, [][]int{{0, 2, 1}, {1, 2, 3}}},
		{[]impl.Point{{}, {Y: 4}, {X: 1}, {X: 2}, {X: 4}}, [][]int{{0, 2, 1}, {1, 2, 3}, {1, 3, 4}}},
		{[]impl.Point{{}, {X: 1, Y: -1}, {X: 1, Y: 1}, {X: 2, Y: -2}, {X: 2, Y: 2}}, [][]int{{0, 1, 2}, {1, 3, 2}, {2, 3, 4}}},
		// Those on the rim between two corners begin a side each.
		{[]impl.Point{{}, {Y: 1}, {Y: 2}, {Y: 3}, {X: 1, Y: 1}}, [][]int{{0, 4, 1}, {1, 4, 2}, {2, 4, 3}}},
		{[]impl.Point{{}, {X: 1, Y: 0}, {X: 1, Y: 1}, {X: 1, Y: 2}, {X: 9, Y: 1}}, [][]int{{0, 1, 2}, {0, 2, 3}, {1, 4, 2}, {2, 4, 3}}},
		{[]impl.Point{{}, {X: 1}, {X: 2}, {X: 2, Y: 2}, {X: 3, Y: -9}}, [][]int{{0, 1, 3}, {0, 4, 1}, {1, 2, 3}, {1, 4, 2}, {2, 4, 3}}},
		{[]impl.Point{{}, {X: 1, Y: 1}, {X: 2, Y: -2}, {X: 2, Y: 2}, {X: 3, Y: 9}}, [][]int{{0, 1, 4}, {0, 2, 1}, {1, 2, 3}, {1, 3, 4}, {2, 4, 3}}},
		// A point that is inside at last.
		{[]impl.Point{{X: 0, Y: 0}, {X: 0, Y: 4}, {X: 1, Y: 1}, {X: 4, Y: 0}}, [][]int{{0, 2, 1}, {0, 3, 2}, {1, 2, 3}}},
		{grid(2), [][]int{{0, 2, 1}, {1, 2, 3}}},
		{grid(3), [][]int{{0, 3, 1}, {1, 3, 2}, {2, 3, 4}, {2, 4, 5}, {3, 6, 4}, {4, 6, 5}, {5, 6, 7}, {5, 7, 8}}},
		// The greatest numbers.
		{ordered(widest()), [][]int{{0, 2, 1}, {1, 2, 3}}},
		{with(widest(), impl.Point{}), [][]int{{0, 2, 1}, {0, 3, 2}, {1, 2, 4}, {2, 3, 4}}},
	} {
		if l := checkTriangles(t, c.s); !samePairs(l, c.want) {
			t.Error("Triangles", c.s, l)
		}
	}
}

// Sets of each size up to MaxPoints: corners all, rows and squares, and one alone beside a row.
func TestPromise11SetsOfEachSize(t *testing.T) {
	for n := range impl.MaxPoints + 1 {
		for _, s := range append(fullSets(n), rightward(n, -9)) {
			checkTriangles(t, s)
			if allWithin(small, s...) && n%4 == 0 {
				checkRound(t, s)
			}
		}
		if n < 2 {
			continue
		}
		for _, p := range []impl.Point{{X: 60, Y: 1}, {X: 60, Y: -1}, {X: -40, Y: 200}, {X: -40, Y: -200}, {X: 0, Y: 90}, {X: 0, Y: -90}} {
			s := with(rightward(n-1, -30), p)
			if cut := checkTriangles(t, s); len(cut) != n-2 {
				t.Fatal("one beside a row", s, cut)
			}
			if n%8 == 0 {
				checkRound(t, s)
			}
		}
	}
}

func TestPromise11FullSets(t *testing.T) {
	for _, s := range append(setsOfLayers(), fullHulls()...) {
		s = ordered(s)
		checkTriangles(t, s)
		if allWithin(small, s...) {
			checkRound(t, s)
		}
	}
	// As many as there may be of MaxPoints points, and so many turns that one more would be many.
	most := nested(20, 5)
	if cut := checkTriangles(t, most); len(cut) != 2*impl.MaxPoints-2-3 {
		t.Error("so many triangles", len(cut))
	}
	turns := 0
	for _, s := range [][]impl.Point{most, twoRows(30, 2, 180), twoRows(30, 400, 3)} {
		turns = max(turns, checkRound(t, s))
	}
	if turns < 80 {
		t.Error("so few turns", turns)
	}
}

// twoRows has points on two curves beside each other, so wide apart, both bent outward.
func twoRows(many, wide, high int) []impl.Point {
	var l []impl.Point
	for k := range many {
		y := (2*k - many + 1) * high / many
		bend := y * y * 9 / (high*high + 1)
		l = append(l, impl.Point{X: min(bend, 9) - wide/2, Y: y}, impl.Point{X: wide/2 - min(bend, 9), Y: y + 1})
	}
	return ordered(l)
}

func TestPromise11NamedEdges(t *testing.T) {
	low, high := math.MinInt, math.MaxInt
	for _, c := range []struct {
		rows, want [][]int
	}{
		{nil, nil},
		{[][]int{}, nil},
		{[][]int{{0, 1, 2}}, [][]int{{0, 1}, {0, 2}, {1, 2}}},
		{[][]int{{2, 0, 1}}, [][]int{{0, 1}, {0, 2}, {1, 2}}},
		{[][]int{{9, 5, 7}}, [][]int{{5, 7}, {5, 9}, {7, 9}}},
		// One that two share is there once, and so are all of one that is there twice.
		{[][]int{{0, 2, 1}, {1, 2, 3}}, [][]int{{0, 1}, {0, 2}, {1, 2}, {1, 3}, {2, 3}}},
		{[][]int{{0, 1, 2}, {2, 1, 0}, {1, 2, 0}}, [][]int{{0, 1}, {0, 2}, {1, 2}}},
		{[][]int{{0, 1, 2}, {0, 1, 3}, {0, 1, 4}}, [][]int{{0, 1}, {0, 2}, {0, 3}, {0, 4}, {1, 2}, {1, 3}, {1, 4}}},
		{[][]int{{0, 1, 2}, {3, 4, 5}}, [][]int{{0, 1}, {0, 2}, {1, 2}, {3, 4}, {3, 5}, {4, 5}}},
		// Lists in any order, of any numbers.
		{[][]int{{8, 7, 6}, {3, 2, 1}, {7, 8, 1}}, [][]int{{1, 2}, {1, 3}, {1, 7}, {1, 8}, {2, 3}, {6, 7}, {6, 8}, {7, 8}}},
		{[][]int{{10, 9, 100}}, [][]int{{9, 10}, {9, 100}, {10, 100}}},
		{[][]int{{-1, 0, -2}}, [][]int{{-2, -1}, {-2, 0}, {-1, 0}}},
		{[][]int{{high, low, 0}}, [][]int{{low, 0}, {low, high}, {0, high}}},
		{[][]int{{low, high, low + 1}, {high - 1, high, low}}, [][]int{{low, low + 1}, {low, high - 1}, {low, high}, {low + 1, high}, {high - 1, high}}},
		{[][]int{{impl.MaxXY, -impl.MaxXY, 61}}, [][]int{{-impl.MaxXY, 61}, {-impl.MaxXY, impl.MaxXY}, {61, impl.MaxXY}}},
		// Numbers that are the same are two of a list's numbers, too.
		{[][]int{{4, 4, 5}}, [][]int{{4, 4}, {4, 5}}},
		{[][]int{{4, 5, 4}, {7, 7, 7}}, [][]int{{4, 4}, {4, 5}, {7, 7}}},
	} {
		e, ok := impl.EdgesOf(c.rows)
		if want, is := modelEdges(c.rows); !ok || !is || !samePairs(e, c.want) || !samePairs(want, c.want) {
			t.Error("EdgesOf", c.rows, e, ok, want)
		}
	}
	for _, rows := range [][][]int{{{}}, {nil}, {{0}}, {{0, 1}}, {{0, 1, 2, 3}}, {{0, 1, 2}, nil}, {{0, 1, 2}, {1, 2}}, {{0, 1, 2, 3}, {1, 2, 4}}, {{0, 1, 2}, {}, {1, 2, 3}}} {
		if e, ok := impl.EdgesOf(rows); len(e) > 0 || ok {
			t.Error("EdgesOf what is not three numbers", rows, e, ok)
		}
	}
}

// 200 lists may be, and no more: apart from each other, all the same, and triangles of a set.
func TestPromise11ManyLists(t *testing.T) {
	var lists [][]int
	for k := range 201 {
		lists = append(lists, []int{3*k + 2, 3 * k, 3*k + 1})
	}
	for _, rows := range [][][]int{lists, slices.Repeat([][]int{{4, 1, 0}}, 201)} {
		e, ok := impl.EdgesOf(rows[:200])
		if want, _ := modelEdges(rows[:200]); !ok || !samePairs(e, want) || len(e) != 600 && len(e) != 3 {
			t.Error("EdgesOf 200", e, ok)
		}
		if e, ok := impl.EdgesOf(rows); len(e) > 0 || ok {
			t.Error("EdgesOf 201", e, ok)
		}
	}
	s := bowl(13)
	all := allTrios(s, 400)
	if len(all) < 202 {
		t.Fatal("so few triangles", len(all))
	}
	for _, many := range []int{199, 200, 201, 202} {
		rows := all[:many]
		is, ok := impl.IsRound(s, rows)
		if is || ok != (many <= 200) {
			t.Error("IsRound", many, is, ok)
		}
		is, ok = impl.IsCut(s, rows)
		if is || ok != (many <= 200) {
			t.Error("IsCut", many, is, ok)
		}
		for i := range s {
			for j := range s {
				turned, ok := impl.FlipAt(s, rows, i, j)
				if want, is := modelFlip(s, rows, i, j); ok != is || !samePairs(turned, want) {
					t.Fatal("FlipAt", many, i, j, turned, ok, want)
				}
			}
		}
	}
	// Of so many just two have the first point and the last one: that edge can be turned where they are not too many.
	s = nil
	for k := 0; k < impl.MaxPoints; k += 4 {
		s = with(s, wheel()[k])
	}
	for _, many := range []int{2, 199, 200, 201} {
		rows := twoBesideMany(s, many)
		turned, ok := impl.FlipAt(s, rows, 0, len(s)-1)
		if want, is := modelFlip(s, rows, 0, len(s)-1); len(rows) != many || ok != (many <= 200) || ok != is || !samePairs(turned, want) {
			t.Error("FlipAt of so many", many, rows, turned, ok, want)
		}
	}
}

// twoBesideMany has so many triangles of a set of corners, of which just two have the first point and the last one, one to each side.
func twoBesideMany(s []impl.Point, many int) [][]int {
	last := len(s) - 1
	rows := slices.DeleteFunc(allTrios(s, 1000), func(l []int) bool { return slices.Contains(l, 0) && slices.Contains(l, last) })
	rows = rows[:many-2]
	for _, side := range []int{1, -1} {
		k := slices.IndexFunc(s, func(p impl.Point) bool { return sign(cross(s[0], s[last], p)) == side })
		rows = append(rows, leftward(s, 0, k, last))
	}
	return inRows(rows)
}

func TestPromise11NamedCircles(t *testing.T) {
	m := small
	origin, right, up := impl.Point{}, impl.Point{X: 2}, impl.Point{Y: 2}
	west, south, east, north := impl.Point{X: -m}, impl.Point{Y: -m}, impl.Point{X: m}, impl.Point{Y: m}
	for _, c := range []struct {
		a, b, c, d impl.Point
		want       int
		ok         bool
	}{
		{origin, right, up, impl.Point{X: 1, Y: 1}, 1, true},
		{origin, right, up, impl.Point{X: 2, Y: 2}, 0, true},
		{origin, right, up, impl.Point{X: 2, Y: 3}, -1, true},
		{origin, right, up, impl.Point{X: 3, Y: 2}, -1, true},
		{origin, right, up, impl.Point{X: 2, Y: 1}, 1, true},
		{origin, right, up, impl.Point{X: 1}, 1, true},
		{origin, right, up, impl.Point{X: 3}, -1, true},
		{origin, right, up, impl.Point{X: -1, Y: -1}, -1, true},
		{origin, right, up, impl.Point{Y: 1}, 1, true},
		// The three themselves are on it.
		{origin, right, up, origin, 0, true},
		{origin, right, up, right, 0, true},
		{origin, right, up, up, 0, true},
		// In the triangle, in the circle alone, and out of both.
		{impl.Point{X: -5}, impl.Point{X: 5}, impl.Point{Y: 5}, impl.Point{Y: 1}, 1, true},
		{impl.Point{X: -5}, impl.Point{X: 5}, impl.Point{Y: 5}, impl.Point{Y: -4}, 1, true},
		{impl.Point{X: -5}, impl.Point{X: 5}, impl.Point{Y: 5}, impl.Point{Y: -5}, 0, true},
		{impl.Point{X: -5}, impl.Point{X: 5}, impl.Point{Y: 5}, impl.Point{X: 3, Y: -4}, 0, true},
		{impl.Point{X: -5}, impl.Point{X: 5}, impl.Point{Y: 5}, impl.Point{X: 4, Y: -4}, -1, true},
		{impl.Point{X: -5}, impl.Point{X: 5}, impl.Point{Y: 5}, impl.Point{Y: -6}, -1, true},
		// Three nearly in one line have a circle that is great.
		{impl.Point{X: -m}, impl.Point{X: 0, Y: -1}, impl.Point{X: m}, impl.Point{Y: m}, 1, true},
		{impl.Point{X: -m}, impl.Point{X: m}, impl.Point{Y: 1}, impl.Point{Y: m}, -1, true},
		{impl.Point{X: -m}, impl.Point{X: m}, impl.Point{Y: 1}, impl.Point{Y: -m}, 1, true},
		{impl.Point{X: -m, Y: -m}, impl.Point{X: m, Y: m - 1}, impl.Point{X: m, Y: m}, impl.Point{X: -m, Y: m}, 1, true},
		{impl.Point{X: -m, Y: -m}, impl.Point{X: m, Y: m - 1}, impl.Point{X: m, Y: m}, impl.Point{X: -m, Y: 1 - m}, 1, true},
		{impl.Point{X: -m, Y: -m}, impl.Point{X: m, Y: m - 1}, impl.Point{X: m, Y: m}, impl.Point{X: m, Y: -m}, -1, true},
		// The greatest numbers.
		{south, east, north, west, 0, true},
		{south, east, north, impl.Point{X: 1 - m}, 1, true},
		{south, east, north, impl.Point{X: -m, Y: 1}, -1, true},
		{impl.Point{X: -m, Y: -m}, impl.Point{X: m, Y: -m}, impl.Point{X: m, Y: m}, impl.Point{X: -m, Y: m}, 0, true},
		{impl.Point{X: -m, Y: -m}, impl.Point{X: m, Y: -m}, impl.Point{X: m, Y: m}, impl.Point{X: -m, Y: m - 1}, 1, true},
		{impl.Point{X: -m, Y: -m}, impl.Point{X: m, Y: -m}, impl.Point{X: m, Y: m - 1}, impl.Point{X: -m, Y: m}, -1, true},
		// In one line, the same, or to the right.
		{origin, right, impl.Point{X: 4}, up, 0, false},
		{origin, impl.Point{X: 4}, right, up, 0, false},
		{origin, impl.Point{X: 1, Y: 1}, impl.Point{X: 2, Y: 2}, impl.Point{X: 1}, 0, false},
		{origin, origin, right, up, 0, false},
		{origin, right, right, up, 0, false},
		{origin, origin, origin, origin, 0, false},
		{right, origin, up, impl.Point{X: 1, Y: 1}, 0, false},
		{origin, up, right, impl.Point{X: 1, Y: 1}, 0, false},
		{origin, up, right, impl.Point{X: 9, Y: 9}, 0, false},
		// One beyond.
		{impl.Point{X: -m - 1}, right, up, origin, 0, false},
		{impl.Point{Y: -m - 1}, right, up, origin, 0, false},
		{origin, impl.Point{X: m + 1}, up, right, 0, false},
		{origin, right, impl.Point{Y: m + 1}, up, 0, false},
		{origin, right, up, impl.Point{X: m + 1}, 0, false},
		{origin, right, up, impl.Point{X: -m - 1}, 0, false},
		{origin, right, up, impl.Point{Y: m + 1}, 0, false},
		{origin, right, up, impl.Point{Y: -m - 1}, 0, false},
		{origin, right, up, impl.Point{X: math.MinInt, Y: math.MaxInt}, 0, false},
	} {
		if in := checkInCircle(t, c.a, c.b, c.c, c.d); in != c.want {
			t.Error("InCircle", c, in)
		}
		if in, ok := impl.InCircle(c.a, c.b, c.c, c.d); in != c.want || ok != c.ok {
			t.Error("InCircle", c, in, ok)
		}
	}
}

// All four points of a square of four by four; and those on one circle, at each bound.
func TestPromise11AllCircles(t *testing.T) {
	square := grid(4)
	seen := map[int]int{}
	for _, a := range square {
		for _, b := range square {
			for _, c := range square {
				if cross(a, b, c) <= 0 || before(a, b) > 0 || before(a, c) > 0 {
					continue
				}
				for _, d := range square {
					seen[checkInCircle(t, a, b, c, d)]++
				}
			}
		}
	}
	if seen[1] < 500 || seen[0] < 500 || seen[-1] < 500 {
		t.Error("circles with nothing inside, on or outside", seen)
	}
	var ring []impl.Point
	for _, p := range []impl.Point{{X: 200}, {X: 192, Y: 56}, {X: 160, Y: 120}, {X: 120, Y: 160}, {X: 56, Y: 192}} {
		for range 4 {
			p = impl.Point{X: -p.Y, Y: p.X}
			ring = append(ring, p)
		}
	}
	ring = sideBySide(ordered(ring))
	for i, a := range ring {
		for j, b := range ring[:i] {
			for k, c := range ring[:j] {
				d := ring[(i+j+k)%len(ring)]
				if in, ok := impl.InCircle(c, b, a, d); in != 0 || !ok {
					t.Fatal("InCircle on it", c, b, a, d, in, ok)
				}
				for _, p := range near([]impl.Point{d}) {
					checkInCircle(t, c, b, a, p)
				}
			}
		}
	}
	// All on one circle: whatever is the first cut, nothing is turned.
	if many := checkRound(t, ordered(ring)); many != 0 {
		t.Error("RoundOf what is on one circle", many)
	}
}

func TestPromise11ManyCircles(t *testing.T) {
	n := numbers{state: 111}
	for range 40000 {
		most := []int{3, 9, 50, small, small + 1}[n.word()%5]
		a, b, c, d := n.point(most), n.point(most), n.point(most), n.point(most)
		in := checkInCircle(t, a, b, c, d)
		// Turned by a quarter all is as it was.
		if _, ok := impl.InCircle(a, b, c, d); ok {
			turn := func(p impl.Point) impl.Point { return impl.Point{X: -p.Y, Y: p.X} }
			if so, ok := impl.InCircle(turn(a), turn(b), turn(c), turn(d)); so != in || !ok {
				t.Fatal("InCircle turned", a, b, c, d, in, so, ok)
			}
			// Of two triangles beside each other both are round, or none.
			if cross(b, c, d) < 0 {
				if so, ok := impl.InCircle(b, d, c, a); ok && cross(a, b, d) > 0 && cross(a, d, c) > 0 && so != in {
					t.Fatal("InCircle of the other one", a, b, c, d, in, so)
				}
			}
		}
	}
}

// tall has four corners, and is cut along: only across it is round.
func tall() []impl.Point {
	return []impl.Point{{X: -1}, {Y: -5}, {Y: 5}, {X: 1}}
}

func TestPromise11NamedTurns(t *testing.T) {
	flat := []impl.Point{{X: -5}, {Y: -1}, {Y: 1}, {X: 5}}
	for _, c := range []struct {
		s    []impl.Point
		want [][]int
		many int
	}{
		// Fewer than three, and all in one line: nothing to turn.
		{nil, nil, 0},
		{[]impl.Point{{X: small, Y: -small}}, nil, 0},
		{[]impl.Point{{X: -small, Y: -small}, {X: small, Y: small}}, nil, 0},
		{rightward(impl.MaxPoints, -30), nil, 0},
		{[]impl.Point{{}, {X: 1}, {X: 1, Y: 1}}, [][]int{{0, 1, 2}}, 0},
		// Round from the start: with all four outside of the circles, on them, and one inside the others.
		{flat, [][]int{{0, 1, 2}, {1, 3, 2}}, 0},
		{grid(2), [][]int{{0, 2, 1}, {1, 2, 3}}, 0},
		{[]impl.Point{{X: 0, Y: 0}, {X: 0, Y: 4}, {X: 1, Y: 1}, {X: 4, Y: 0}}, [][]int{{0, 2, 1}, {0, 3, 2}, {1, 2, 3}}, 0},
		{[]impl.Point{{X: -5}, {X: -3, Y: -4}, {X: -3, Y: 4}, {Y: -5}, {Y: 5}, {X: 4, Y: -3}, {X: 4, Y: 3}, {X: 5}}, [][]int{{0, 1, 2}, {1, 3, 2}, {2, 3, 4}, {3, 5, 4}, {4, 5, 6}, {5, 7, 6}}, 0},
		// One turn.
		{tall(), [][]int{{0, 1, 3}, {0, 3, 2}}, 1},
		{[]impl.Point{{X: -small}, {Y: 1 - small}, {Y: small - 1}, {X: small - 3}}, [][]int{{0, 1, 3}, {0, 3, 2}}, 1},
		{[]impl.Point{{X: -small}, {Y: -small}, {Y: small - 1}, {X: small - 2}}, [][]int{{0, 1, 3}, {0, 3, 2}}, 1},
		{[]impl.Point{{X: -small}, {Y: -small}, {Y: small - 1}, {X: small - 1}}, [][]int{{0, 1, 2}, {1, 3, 2}}, 0},
		{[]impl.Point{{X: -small}, {Y: -small}, {Y: small}, {X: small - 1}}, [][]int{{0, 1, 3}, {0, 3, 2}}, 1},
		{[]impl.Point{{X: -small}, {Y: -small}, {Y: small}, {X: small}}, [][]int{{0, 1, 2}, {1, 3, 2}}, 0},
		{[]impl.Point{{X: 1 - small}, {Y: 1 - small}, {Y: small - 1}, {X: small}}, [][]int{{0, 1, 2}, {1, 3, 2}}, 0},
		// Others beside them.
		{[]impl.Point{{X: -1}, {Y: -9}, {Y: 9}, {X: 1}, {X: 2}}, [][]int{{0, 1, 3}, {0, 3, 2}, {1, 4, 3}, {2, 3, 4}}, 1},
		{[]impl.Point{{X: -2}, {Y: -9}, {Y: 0}, {Y: 9}, {X: 2}}, [][]int{{0, 1, 2}, {0, 2, 3}, {1, 4, 2}, {2, 4, 3}}, 0},
	} {
		round, many, ok := impl.RoundOf(c.s)
		if !ok || many != c.many || !samePairs(round, c.want) {
			t.Error("RoundOf", c.s, round, many, ok)
		}
		if many := checkRound(t, c.s); many != c.many {
			t.Error("turns", c.s, many)
		}
	}
	for _, s := range [][]impl.Point{
		{{X: small + 1}}, {{X: -small - 1}}, {{Y: small + 1}}, {{Y: -small - 1}}, with(tall(), impl.Point{X: small + 1}), with(grid(7), impl.Point{Y: -small - 1}),
		{{X: 1}, {}}, {{}, {}}, rightward(impl.MaxPoints+1, 0), {{X: 5}, {X: 3}, {X: 4}}, {{X: impl.MaxXY + 1}}, ordered(widest()), {{X: math.MinInt, Y: math.MaxInt}},
	} {
		if round, many, ok := impl.RoundOf(s); len(round) > 0 || many != 0 || ok {
			t.Error("RoundOf", s, round, many, ok)
		}
		for _, rows := range [][][]int{nil, {{0, 1, 2}}} {
			if is, ok := impl.IsRound(s, rows); is || ok {
				t.Error("IsRound", s, rows, is, ok)
			}
			if turned, ok := impl.FlipAt(s, rows, 0, 1); len(turned) > 0 || ok {
				t.Error("FlipAt", s, rows, turned, ok)
			}
		}
	}
}

func TestPromise11NamedFlips(t *testing.T) {
	five := []impl.Point{{X: -9}, {Y: -9}, {Y: 9}, {X: 1}, {X: 9}}
	bent := []impl.Point{{X: -9}, {X: 0, Y: -9}, {X: 0, Y: 9}, {X: 1, Y: -8}}
	for _, c := range []struct {
		s    []impl.Point
		rows [][]int
		i, j int
		want [][]int
		ok   bool
	}{
		{tall(), [][]int{{0, 1, 2}, {1, 3, 2}}, 1, 2, [][]int{{0, 1, 3}, {0, 3, 2}}, true},
		{tall(), [][]int{{0, 1, 3}, {0, 3, 2}}, 0, 3, [][]int{{0, 1, 2}, {1, 3, 2}}, true},
		// No matter if it is rounder so, and whatever else is there.
		{grid(2), [][]int{{0, 2, 1}, {1, 2, 3}}, 1, 2, [][]int{{0, 2, 3}, {0, 3, 1}}, true},
		{with(tall(), impl.Point{X: 9}), [][]int{{0, 1, 2}, {1, 3, 2}, {1, 4, 3}, {2, 3, 4}}, 1, 2, [][]int{{0, 1, 3}, {0, 3, 2}, {1, 4, 3}, {2, 3, 4}}, true},
		// Of one triangle alone, of none, and no edge of one that is there.
		{tall(), [][]int{{0, 1, 2}, {1, 3, 2}}, 0, 1, nil, false},
		{tall(), [][]int{{0, 1, 2}, {1, 3, 2}}, 0, 3, nil, false},
		{tall(), [][]int{{0, 1, 2}, {1, 3, 2}}, 2, 3, nil, false},
		{tall(), [][]int{{0, 1, 2}}, 1, 2, nil, false},
		{tall(), nil, 1, 2, nil, false},
		{tall(), [][]int{{0, 1, 2}, {0, 3, 2}}, 1, 3, nil, false},
		// i is not less than j, or they are none of the set.
		{tall(), [][]int{{0, 1, 2}, {1, 3, 2}}, 2, 1, nil, false},
		{tall(), [][]int{{0, 1, 2}, {1, 3, 2}}, 1, 1, nil, false},
		{tall(), [][]int{{0, 1, 2}, {1, 3, 2}}, -1, 2, nil, false},
		{tall(), [][]int{{0, 1, 2}, {1, 3, 2}}, 1, 4, nil, false},
		{tall(), [][]int{{0, 1, 2}, {1, 3, 2}}, 3, 4, nil, false},
		{tall(), [][]int{{0, 1, 2}, {1, 3, 2}}, -3, -2, nil, false},
		{tall(), [][]int{{0, 1, 2}, {1, 3, 2}}, math.MinInt, math.MaxInt, nil, false},
		{tall(), [][]int{{0, 1, 2}, {1, 3, 2}}, 1, math.MaxInt, nil, false},
		{nil, nil, 0, 0, nil, false},
		{nil, nil, 0, 1, nil, false},
		// The four have a corner that looks in, or three of them are in one line: no hull of four.
		{[]impl.Point{{X: 0, Y: 0}, {X: 0, Y: 4}, {X: 1, Y: 1}, {X: 4, Y: 0}}, [][]int{{0, 2, 1}, {0, 3, 2}, {1, 2, 3}}, 0, 2, nil, false},
		{[]impl.Point{{X: 0, Y: 0}, {X: 0, Y: 4}, {X: 1, Y: 1}, {X: 4, Y: 0}}, [][]int{{0, 2, 1}, {0, 3, 2}, {1, 2, 3}}, 1, 2, nil, false},
		{[]impl.Point{{X: 0, Y: 0}, {X: 0, Y: 4}, {X: 1, Y: 1}, {X: 4, Y: 0}}, [][]int{{0, 2, 1}, {0, 3, 2}, {1, 2, 3}}, 2, 3, nil, false},
		{[]impl.Point{{}, {Y: 4}, {X: 2}, {X: 4}}, [][]int{{0, 2, 1}, {1, 2, 3}}, 1, 2, nil, false},
		{[]impl.Point{{}, {Y: 2}, {Y: 4}, {X: 4}}, [][]int{{0, 3, 1}, {1, 3, 2}}, 1, 3, nil, false},
		{[]impl.Point{{X: -4}, {}, {X: 2, Y: -4}, {X: 4}}, [][]int{{0, 2, 1}, {1, 2, 3}}, 1, 2, nil, false},
		{bent, [][]int{{0, 1, 2}, {1, 3, 2}}, 1, 2, [][]int{{0, 1, 3}, {0, 3, 2}}, true},
		// Both on the same side: a hull of four, but not turn by turn; and one inside the other.
		{five, [][]int{{0, 1, 2}, {0, 1, 4}}, 0, 1, nil, false},
		{five, [][]int{{0, 1, 3}, {0, 1, 4}}, 0, 1, nil, false},
		{five, [][]int{{0, 1, 2}, {0, 1, 3}}, 0, 1, nil, false},
		{five, [][]int{{1, 3, 2}, {1, 4, 2}}, 1, 2, nil, false},
		// Three that have both, and each two of them.
		{five, [][]int{{0, 1, 2}, {1, 3, 2}, {1, 4, 2}}, 1, 2, nil, false},
		{five, [][]int{{0, 1, 2}, {1, 3, 2}}, 1, 2, [][]int{{0, 1, 3}, {0, 3, 2}}, true},
		{five, [][]int{{0, 1, 2}, {1, 4, 2}}, 1, 2, [][]int{{0, 1, 4}, {0, 4, 2}}, true},
		{five, [][]int{{0, 1, 2}, {1, 4, 2}, {1, 4, 3}}, 1, 4, nil, false},
		// One that comes is there already, or both: each is there once.
		{tall(), [][]int{{0, 1, 2}, {0, 1, 3}, {1, 3, 2}}, 1, 2, [][]int{{0, 1, 3}, {0, 3, 2}}, true},
		{tall(), [][]int{{0, 1, 2}, {0, 1, 3}, {0, 3, 2}, {1, 3, 2}}, 1, 2, [][]int{{0, 1, 3}, {0, 3, 2}}, true},
		{tall(), [][]int{{0, 1, 2}, {0, 1, 3}, {0, 3, 2}, {1, 3, 2}}, 0, 3, [][]int{{0, 1, 2}, {1, 3, 2}}, true},
	} {
		turned, ok := impl.FlipAt(c.s, c.rows, c.i, c.j)
		if ok != c.ok || ok && !samePairs(turned, c.want) || !ok && len(turned) > 0 {
			t.Error("FlipAt", c.s, c.rows, c.i, c.j, turned, ok)
		}
		if modelTrios(c.s, c.rows) {
			checkFlips(t, c.s, c.rows)
		}
	}
}

func TestPromise11NamedRound(t *testing.T) {
	m := small
	square := []impl.Point{{X: -m, Y: -m}, {X: -m, Y: m}, {X: m, Y: -m}, {X: m, Y: m}}
	for _, c := range []struct {
		s    []impl.Point
		rows [][]int
		is   bool
	}{
		{nil, nil, true},
		{[]impl.Point{{X: m, Y: m}}, [][]int{}, true},
		{tall(), nil, true},
		{grid(7), nil, true},
		{tall(), [][]int{{0, 1, 2}, {1, 3, 2}}, false},
		{tall(), [][]int{{0, 1, 3}, {0, 3, 2}}, true},
		{tall(), [][]int{{0, 1, 2}}, false},
		{tall(), [][]int{{0, 3, 2}}, true},
		{tall(), [][]int{{0, 1, 3}, {0, 3, 2}, {1, 3, 2}}, false},
		// On the circle alone.
		{square, [][]int{{0, 2, 1}, {1, 2, 3}}, true},
		{square, [][]int{{0, 2, 3}, {0, 3, 1}}, true},
		{square, allTrios(square, 9), true},
		{with(square, impl.Point{}), [][]int{{0, 3, 1}}, false},
		{with(square, impl.Point{X: 1 - m, Y: 1 - m}), [][]int{{2, 3, 4}}, true},
		{with(square, impl.Point{X: m - 1, Y: m}), [][]int{{0, 2, 1}}, true},
		{with(square, impl.Point{X: m - 1, Y: m}), [][]int{{0, 3, 1}}, false},
		// One far from the triangle that is in the circle all the same.
		{[]impl.Point{{X: -m, Y: -m}, {X: -m, Y: m}, {X: m, Y: m - 1}, {X: m, Y: m}}, [][]int{{0, 2, 3}}, false},
		{[]impl.Point{{X: -m, Y: -m}, {X: m, Y: -m}, {X: m, Y: m - 1}, {X: m, Y: m}}, [][]int{{0, 2, 3}}, true},
	} {
		is, ok := impl.IsRound(c.s, c.rows)
		if want, good := modelIsRound(c.s, c.rows); is != c.is || want != c.is || !ok || !good {
			t.Error("IsRound", c.s, c.rows, is, ok, want)
		}
	}
}

func TestPromise11NamedCuts(t *testing.T) {
	m := impl.MaxXY
	wide := ordered(widest())
	for _, c := range []struct {
		s    []impl.Point
		rows [][]int
		is   bool
	}{
		{nil, nil, true},
		{[]impl.Point{{X: m, Y: -m}}, nil, true},
		{rightward(impl.MaxPoints, 0), [][]int{}, true},
		{tall(), nil, false},
		{tall(), [][]int{{0, 1, 2}, {1, 3, 2}}, true},
		{tall(), [][]int{{0, 1, 3}, {0, 3, 2}}, true},
		{tall(), [][]int{{0, 1, 2}}, false},
		{tall(), [][]int{{0, 1, 2}, {0, 1, 3}, {1, 3, 2}}, false},
		{tall(), allTrios(tall(), 9), false},
		// The areas are right, but one of them has another point inside, or on its rim.
		{[]impl.Point{{}, {Y: 9}, {X: 2, Y: 2}, {X: 9}}, [][]int{{0, 3, 1}}, false},
		{with(tall(), impl.Point{}), [][]int{{0, 1, 3}, {1, 4, 3}}, false},
		{[]impl.Point{{}, {X: 2}, {X: 2, Y: 1}, {X: 5, Y: 5}, {X: 6}}, [][]int{{0, 4, 3}}, false},
		{[]impl.Point{{}, {X: 2}, {X: 5, Y: 5}, {X: 6}}, [][]int{{0, 3, 2}}, false},
		{[]impl.Point{{}, {X: 2}, {X: 5, Y: 5}, {X: 6}}, [][]int{{0, 1, 2}, {1, 3, 2}}, true},
		{[]impl.Point{{}, {Y: 1}, {Y: 2}, {X: 1}}, [][]int{{0, 3, 2}}, false},
		{[]impl.Point{{}, {Y: 1}, {Y: 2}, {X: 1}}, [][]int{{0, 3, 1}, {1, 3, 2}}, true},
		// The areas are right, and none has another point: that is all that is asked, whether they lie over each other or not.
		{tall(), [][]int{{0, 1, 2}, {0, 3, 2}}, true},
		{[]impl.Point{{X: -5, Y: 0}, {Y: -5}, {Y: 5}, {X: 5}}, [][]int{{0, 1, 2}, {0, 3, 2}}, true},
		{grid(2), [][]int{{0, 2, 1}, {0, 2, 3}}, true},
		{grid(2), [][]int{{0, 2, 1}, {0, 2, 3}, {1, 2, 3}}, false},
		// The greatest numbers.
		{wide, [][]int{{0, 2, 1}, {1, 2, 3}}, true},
		{wide, [][]int{{0, 2, 3}, {0, 3, 1}}, true},
		{wide, [][]int{{0, 2, 3}}, false},
		{with(wide, impl.Point{}), [][]int{{0, 2, 1}, {0, 3, 2}, {1, 2, 4}, {2, 3, 4}}, true},
		{with(wide, impl.Point{}), [][]int{{0, 3, 1}, {1, 3, 4}}, false},
		{with(wide, impl.Point{X: m, Y: m - 1}), [][]int{{0, 2, 1}, {1, 2, 3}, {1, 3, 4}}, true},
		{with(wide, impl.Point{X: m, Y: m - 1}), [][]int{{0, 2, 1}, {1, 2, 3}}, false},
		{with(wide, impl.Point{X: m, Y: m - 1}), [][]int{{0, 2, 1}, {1, 2, 4}}, false},
	} {
		is, ok := impl.IsCut(c.s, c.rows)
		if want, good := modelIsCut(c.s, c.rows); is != c.is || want != c.is || !ok || !good {
			t.Error("IsCut", c.s, c.rows, is, ok, want)
		}
	}
	// 200 triangles of the greatest areas there are, far more than the hull has.
	if is, ok := impl.IsCut(with(wide, bowl(20)...), allTrios(with(wide, bowl(20)...), 200)); is || !ok {
		t.Error("IsCut of 200", is, ok)
	}
}

// What is no triangle of the set, in one way each: beside a good set and good triangles the zero answer.
func TestPromise11NoTriangles(t *testing.T) {
	s := with(tall(), impl.Point{X: 9})
	good := [][]int{{0, 1, 2}, {1, 3, 2}, {1, 4, 3}, {2, 3, 4}}
	if is, ok := impl.IsCut(s, good); !is || !ok {
		t.Fatal("no cut", is, ok)
	}
	for i, rows := range wrongRows(good, len(s)) {
		if modelTrios(s, rows) {
			t.Fatal("good rows", i, rows)
		}
		if is, ok := impl.IsCut(s, rows); is || ok {
			t.Error("IsCut", rows, is, ok)
		}
		if is, ok := impl.IsRound(s, rows); is || ok {
			t.Error("IsRound", rows, is, ok)
		}
		if turned, ok := impl.FlipAt(s, rows, 1, 2); len(turned) > 0 || ok {
			t.Error("FlipAt", rows, turned, ok)
		}
	}
	for _, rows := range [][][]int{{{0, 1, 2}}, {{0, 2, 1}}, {{0, 1, 1}}, {{0, 0, 0}}, {{-1, 0, 1}}} {
		for _, few := range [][]impl.Point{nil, {{}}, {{}, {X: 1}}, rightward(3, 0), {{X: 1}, {}, {X: 1, Y: 1}}, slices.Repeat([]impl.Point{{X: 1}}, 3), rightward(impl.MaxPoints+1, 0), {{X: -impl.MaxXY - 1}, {}, {Y: 1}}} {
			is, ok := impl.IsCut(few, rows)
			round, told := impl.IsRound(few, rows)
			turned, done := impl.FlipAt(few, rows, 0, 1)
			if is || ok || round || told || len(turned) > 0 || done {
				t.Error("triangles of none", few, rows, is, ok, round, told, turned, done)
			}
		}
	}
}

// wrongRows spoils good triangles of so many points in one place each.
func wrongRows(good [][]int, many int) [][][]int {
	var all [][][]int
	put := func(k int, l ...int) {
		rows := slices.Clone(good)
		rows[k] = l
		all = append(all, rows)
	}
	for k, l := range good {
		a, b, c := l[0], l[1], l[2]
		put(k)
		put(k, a)
		put(k, a, b)
		put(k, a, b, c, 0)
		put(k, a, b, c, c)
		put(k, b, c, a)
		put(k, c, a, b)
		put(k, a, c, b)
		put(k, a, b, b)
		put(k, a, a, c)
		put(k, a, a, a)
		for _, wrong := range []int{many, -1, -many, math.MaxInt, math.MinInt} {
			put(k, wrong, b, c)
			put(k, a, wrong, c)
			put(k, a, b, wrong)
		}
		// Twice, or out of order.
		all = append(all, slices.Insert(slices.Clone(good), k, l), slices.Insert(slices.Clone(good), k, slices.Clone(l)))
		if k > 0 {
			rows := slices.Clone(good)
			rows[k-1], rows[k] = rows[k], rows[k-1]
			all = append(all, rows, append(slices.Clone(good), good[k-1]))
		}
	}
	return all
}

// The numbers that the document names, and for all functions that bind them to good triangles: at 200 they answer, one beyond they do not.
func TestPromise11SmallNumbers(t *testing.T) {
	if impl.MaxSmall != 200 {
		t.Fatal("MaxSmall", impl.MaxSmall)
	}
	cut := [][]int{{0, 1, 2}, {1, 3, 2}}
	for _, c := range []struct {
		far impl.Point
		ok  bool
	}{
		{impl.Point{X: 200}, true}, {impl.Point{X: 201}, false}, {impl.Point{X: -200}, true}, {impl.Point{X: -201}, false},
		{impl.Point{Y: 200}, true}, {impl.Point{Y: 201}, false}, {impl.Point{Y: -200}, true}, {impl.Point{Y: -201}, false},
	} {
		// Four corners, one of them so far away, and all others inside of 5.
		s := ordered([]impl.Point{c.far, {X: 5 * sign(c.far.Y), Y: -5 * sign(c.far.X)}, {X: -5 * sign(c.far.Y), Y: 5 * sign(c.far.X)}, {X: -sign(c.far.X), Y: -sign(c.far.Y)}})
		if is, ok := impl.IsCut(s, cut); !is || !ok {
			t.Fatal("no cut", s, is, ok)
		}
		turned, ok := impl.FlipAt(s, cut, 1, 2)
		if ok != c.ok || ok && !samePairs(turned, [][]int{{0, 1, 3}, {0, 3, 2}}) || !ok && len(turned) > 0 {
			t.Error("FlipAt", s, turned, ok)
		}
		want, _ := modelIsRound(s, cut)
		if is, ok := impl.IsRound(s, cut); ok != c.ok || is != want {
			t.Error("IsRound", s, is, ok)
		}
		round, _, ok := impl.RoundOf(s)
		if is, _ := impl.IsRound(s, round); ok != c.ok || is != c.ok || !ok && len(round) > 0 {
			t.Error("RoundOf", s, round, ok)
		}
		for k := range s {
			l := startAt([]impl.Point{s[0], s[1], s[3]}, k%3)
			if _, ok := impl.InCircle(l[0], l[1], l[2], s[2]); ok != c.ok {
				t.Error("InCircle", l, s[2], ok)
			}
		}
	}
}

// Triangles that lie over each other, or have other points, are triangles of a set, too.
func TestPromise11AnyTriangles(t *testing.T) {
	n := numbers{state: 112}
	turned := 0
	for i := range 700 {
		s := someSet(&n, []int{2, 3, 9, small}[i%4])
		s = s[:min(len(s), 9)]
		one := 1 + n.word()%6
		rows := slices.DeleteFunc(allTrios(s, 200), func([]int) bool { return n.word()%8 >= one })
		is, ok := impl.IsCut(s, rows)
		if want, good := modelIsCut(s, rows); is != want || ok != good {
			t.Fatal("IsCut", s, rows, is, ok)
		}
		is, ok = impl.IsRound(s, rows)
		if want, good := modelIsRound(s, rows); is != want || ok != good {
			t.Fatal("IsRound", s, rows, is, ok)
		}
		turned += checkFlips(t, s, rows)
		if e, ok := impl.EdgesOf(rows); ok {
			if want, _ := modelEdges(rows); !samePairs(e, want) {
				t.Fatal("EdgesOf", rows, e)
			}
		}
	}
	if turned < 500 {
		t.Error("so few turned", turned)
	}
}
