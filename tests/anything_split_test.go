package tests

import (
	"math"
	"slices"
	"testing"

	"loop.example/g00780/impl"
)

// checkSplits asks all of chapter 11 but InCircle, with lists that have that much room behind their lengths.
func checkSplits(t *testing.T, l []impl.Point, rows [][]int, i, j, room int) {
	t.Helper()
	set, laid := lay(l, room), layRows(rows, room)
	is, ok := impl.IsCut(set.list, laid.rows)
	if want, good := modelIsCut(l, rows); is != want || ok != good {
		t.Fatal("IsCut", l, rows, is, ok)
	}
	is, ok = impl.IsRound(set.list, laid.rows)
	if want, good := modelIsRound(l, rows); is != want || ok != good {
		t.Fatal("IsRound", l, rows, is, ok)
	}
	checkRows(t, "IsCut or IsRound", nil, false, nil, false, set, laid)
	answer, ok := impl.EdgesOf(laid.rows)
	want, good := modelEdges(rows)
	checkRows(t, "EdgesOf", answer, ok, want, good, set, laid)
	answer, ok = impl.FlipAt(set.list, laid.rows, i, j)
	want, good = modelFlip(l, rows, i, j)
	checkRows(t, "FlipAt", answer, ok, want, good, set, laid)
}

// checkSetSplit asks the two that take a set alone.
func checkSetSplit(t *testing.T, l []impl.Point, room int) {
	t.Helper()
	set, none := lay(l, room), layRows(nil, 0)
	answer, ok := impl.Triangles(set.list)
	want, good := modelTriangles(l)
	checkRows(t, "Triangles", answer, ok, want, good, set, none)
	answer, many, ok := impl.RoundOf(set.list)
	want, turns, good := modelRoundOf(l)
	checkRows(t, "RoundOf", answer, ok, want, good, set, none)
	if many != turns {
		t.Fatal("RoundOf", l, many, turns)
	}
}

// splitLists are sets with triangles, with few or none, and lists that are no sets.
func splitLists() [][]impl.Point {
	return slices.Concat(ringLists(), notHulls(), setsOfLayers(), [][]impl.Point{
		tall(), with(tall(), impl.Point{X: 9}), reversed(tall()), with(rightward(9, -4), impl.Point{Y: 7}, impl.Point{Y: -7}), nested(5, 20),
		with(tall(), impl.Point{X: small}), with(tall(), impl.Point{X: small + 1}), with(tall(), impl.Point{Y: -small}), with(tall(), impl.Point{Y: -small - 1}),
	})
}

// rowsFor has rows for a list of points: triangles of it where it has some, of another set, spoiled ones, and what is none of any set.
func rowsFor(l []impl.Point) [][][]int {
	cut, _ := modelTriangles(l)
	all := [][][]int{nil, {}, cut, {nil}, {{}}, {{0, 1, 2}}, {{0, 2, 1}}, {{0, 1, 2}, {1, 3, 2}}, {{math.MinInt, math.MaxInt, 0}}, {{0, 1, 2}, nil, {0, 1, 2}}, slices.Repeat([][]int{{2, 2, 1}}, 201)}
	if len(cut) > 0 {
		k := len(cut) / 2
		spoiled := wrongRows(cut[:k+1], len(l))
		all = append(all, cut[:k], cut[k:], cut[:k+1], spoiled[len(spoiled)/3], spoiled[len(spoiled)/2], spoiled[len(spoiled)-1], slices.Concat(cut, cut))
	}
	return all
}

func TestPromise18AnySplits(t *testing.T) {
	for i, l := range splitLists() {
		for _, room := range []int{0, 1, 9} {
			checkSetSplit(t, l, room)
		}
		for k, rows := range rowsFor(l) {
			for _, at := range [][]int{{0, 1}, {1, 2}, {i % 7, 3 + k}, {2, 2}, {-1, k}, {math.MinInt, math.MaxInt}, {0, math.MaxInt}, {len(l) - 1, len(l)}} {
				checkSplits(t, l, rows, at[0], at[1], (i+k)%3)
			}
		}
	}
}

// What lies behind a list may be the rest of a set, and of triangles, and behind a triangle's numbers those of another one.
func TestPromise18PartsOfSplits(t *testing.T) {
	for _, whole := range [][]impl.Point{grid(3), with(tall(), impl.Point{X: 9}), nested(3, 9), rightward(5, 0), bowl(9), ordered(wheel())} {
		was := slices.Clone(whole)
		for k := range whole {
			part := was[:k:k]
			cut, ok := impl.Triangles(whole[:k])
			if want, is := modelTriangles(part); ok != is || !samePairs(cut, want) {
				t.Fatal("Triangles of a part", whole, k, cut, ok)
			}
			round, many, ok := impl.RoundOf(whole[:k])
			if want, n, is := modelRoundOf(part); ok != is || many != n || !samePairs(round, want) {
				t.Fatal("RoundOf a part", whole, k, round, ok)
			}
			for _, rows := range [][][]int{cut, {{0, 1, k}}, {{0, k, 1}}} {
				checkPartOfRows(t, whole, k, rows)
			}
		}
		if !slices.Equal(whole, was) {
			t.Fatal("written into a set or behind it", was, whole)
		}
	}
}

// checkPartOfRows asks with all numbers of the rows in one list, each row being a part of it, and with fewer rows than there are.
func checkPartOfRows(t *testing.T, whole []impl.Point, many int, rows [][]int) {
	t.Helper()
	part := slices.Clone(whole[:many])
	all := slices.Concat(rows...)
	var parts [][]int
	for i := range rows {
		parts = append(parts, all[3*i:3*i+3])
	}
	for k := range len(rows) + 1 {
		is, ok := impl.IsCut(whole[:many], parts[:k])
		if want, good := modelIsCut(part, rows[:k]); is != want || ok != good {
			t.Fatal("IsCut of a part", part, rows, k, is, ok)
		}
		is, ok = impl.IsRound(whole[:many], parts[:k])
		if want, good := modelIsRound(part, rows[:k]); is != want || ok != good {
			t.Fatal("IsRound of a part", part, rows, k, is, ok)
		}
		e, ok := impl.EdgesOf(parts[:k])
		if want, good := modelEdges(rows[:k]); ok != good || !samePairs(e, want) {
			t.Fatal("EdgesOf a part", rows, k, e, ok)
		}
		turned, ok := impl.FlipAt(whole[:many], parts[:k], 1, 2)
		if want, good := modelFlip(part, rows[:k], 1, 2); ok != good || !samePairs(turned, want) {
			t.Fatal("FlipAt of a part", part, rows, k, turned, ok)
		}
		if !samePairs(parts, rows) {
			t.Fatal("written into rows or behind them", rows, parts)
		}
	}
}

// One point of a good set is changed for one that is not good, out of order or there twice; one number of good triangles for another one.
func TestPromise18OneWrongOfASplit(t *testing.T) {
	for _, n := range []int{1, 2, 3, 4, 9, 17, impl.MaxPoints} {
		for place := range n {
			for i, p := range append(anyPoints(), impl.Point{X: small}, impl.Point{Y: -small - 1}) {
				if n == impl.MaxPoints && (i+place)%9 > 0 {
					continue
				}
				s := rightward(n, -n/2)
				s[n/2].Y++
				cut, _ := modelTriangles(s)
				s[place] = p
				checkSetSplit(t, s, i%3)
				checkSplits(t, s, cut, i, i+1, i%3)
			}
		}
	}
	s := with(tall(), impl.Point{X: 9})
	cut, _ := modelTriangles(s)
	for i, rows := range wrongRows(cut, len(s)) {
		for room := range 3 {
			checkSplits(t, s, rows, 1, 2, room)
			checkSplits(t, s, rows, i%4, i%5, room)
		}
	}
}

func TestPromise18AnyCircles(t *testing.T) {
	points := append(anyPoints(), impl.Point{X: small}, impl.Point{X: small, Y: -small}, impl.Point{X: -small, Y: small + 1}, impl.Point{X: -small - 1}, impl.Point{X: 5, Y: -3})
	good := []impl.Point{{}, {X: 3, Y: -1}, {X: small, Y: small}, {X: -small, Y: small}}
	for i, a := range points {
		for _, b := range points {
			for _, c := range points {
				checkInCircle(t, a, b, c, points[i])
				checkInCircle(t, a, good[0], b, c)
			}
			checkInCircle(t, good[1], good[2], a, b)
			checkInCircle(t, good[0], good[1], good[2], a)
			checkInCircle(t, a, b, good[0], good[3])
		}
	}
}

func TestPromise18ManySplits(t *testing.T) {
	n := numbers{state: 113}
	for range 500 {
		most := []int{1, 3, 9, small, small + 1, impl.MaxXY, impl.MaxXY + 1}[n.word()%7]
		l := someList(&n, most)
		if n.word()%4 > 0 {
			l = l[:min(len(l), 8)]
		}
		checkSetSplit(t, l, int(n.word()%4))
		rows, _, _ := impl.RoundOf(l)
		if len(rows) == 0 {
			rows, _ = impl.Triangles(l)
		}
		if len(rows) > 0 && n.word()%2 == 0 {
			all := wrongRows(rows[:1+n.word()%uint64(len(rows))], len(l))
			rows = all[n.word()%uint64(len(all))]
		}
		for range 6 {
			i, j := int(n.word()%9), int(n.word()%9)
			if e, _ := modelEdges(rows); len(e) > 0 {
				pair := e[n.word()%uint64(len(e))]
				i, j = pair[0], pair[1]
			}
			checkSplits(t, l, rows, i, j, int(n.word()%4))
		}
	}
}

// Nothing is kept: what is asked again is told again, whatever was asked between, and whatever was written into what was told.
func TestPromise18SplitsAskedAgain(t *testing.T) {
	for range 2 {
		for _, s := range [][]impl.Point{tall(), grid(3), ordered(wheel()), nested(4, 9), rightward(5, 0), nil} {
			cut, _ := impl.Triangles(s)
			e, _ := impl.EdgesOf(cut)
			round, _, _ := impl.RoundOf(s)
			turned, _ := impl.FlipAt(s, cut, 1, 2)
			for _, rows := range [][][]int{cut, e, round, turned} {
				for _, l := range rows {
					clear(l)
				}
				clear(rows)
			}
			checkSetSplit(t, s, 1)
			want, _ := modelTriangles(s)
			checkSplits(t, s, want, 1, 2, 1)
		}
	}
}
