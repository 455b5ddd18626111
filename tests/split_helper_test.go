package tests

import (
	"slices"
	"testing"

	"loop.example/g00780/impl"
)

// The models say chapter 11 with no round and no wings: what a point sees is asked of each two points, a circle by its middle, what is turned by the hull of four. They share nothing with the program.

const small = impl.MaxSmall

// leftward has three numbers as a triangle is told.
func leftward(s []impl.Point, i, j, k int) []int {
	for _, l := range [][]int{{i, j, k}, {j, k, i}, {k, i, j}, {i, k, j}, {k, j, i}, {j, i, k}} {
		if l[0] < l[1] && l[0] < l[2] && cross(s[l[0]], s[l[1]], s[l[2]]) > 0 {
			return l
		}
	}
	panic("no triangle")
}

// inRows has rows in order, each once.
func inRows(rows [][]int) [][]int {
	slices.SortFunc(rows, slices.Compare)
	return slices.CompactFunc(rows, slices.Equal)
}

// isNextOnRim says whether all points are left of the way from i to j or in line with it, and none between them.
func isNextOnRim(s []impl.Point, i, j int) bool {
	for _, o := range s {
		if cross(s[i], s[j], o) < 0 || o != s[i] && o != s[j] && between(s[i], s[j], o) {
			return false
		}
	}
	return true
}

func modelTriangles(s []impl.Point) ([][]int, bool) {
	if !modelGood(s) {
		return nil, false
	}
	var t [][]int
	for n := range s {
		for i := range n {
			for j := range n {
				if cross(s[i], s[j], s[n]) < 0 && isNextOnRim(s[:n], i, j) {
					t = append(t, leftward(s, i, j, n))
				}
			}
		}
	}
	return inRows(t), true
}

// modelTrios says whether t is triangles of s.
func modelTrios(s []impl.Point, t [][]int) bool {
	if !modelGood(s) || len(t) > 200 {
		return false
	}
	for k, l := range t {
		if len(l) != 3 || k > 0 && slices.Compare(t[k-1], l) >= 0 {
			return false
		}
		for _, n := range l {
			if n < l[0] || n < 0 || n >= len(s) {
				return false
			}
		}
		if cross(s[l[0]], s[l[1]], s[l[2]]) <= 0 {
			return false
		}
	}
	return true
}

func modelEdges(t [][]int) ([][]int, bool) {
	if len(t) > 200 || slices.ContainsFunc(t, func(l []int) bool { return len(l) != 3 }) {
		return nil, false
	}
	var pairs [][]int
	for _, l := range t {
		for i, one := range l {
			for _, other := range l[:i] {
				pair := []int{one, other}
				slices.Sort(pair)
				pairs = append(pairs, pair)
			}
		}
	}
	return inRows(pairs), true
}

// modelInCircle finds the middle of the circle, that many times as far from a as all is made greater, and asks which of a and d is farther from it.
func modelInCircle(a, b, c, d impl.Point) (int, bool) {
	if !allWithin(small, a, b, c, d) || cross(a, b, c) <= 0 {
		return 0, false
	}
	times := 2 * cross(a, b, c)
	to, on := grown(a, -1, b), grown(a, -1, c)
	middle := impl.Point{X: on.Y*apart(a, b) - to.Y*apart(a, c), Y: to.X*apart(a, c) - on.X*apart(a, b)}
	far := apart(middle, grown(grown(a, -1, d), times, impl.Point{}))
	return sign(apart(middle, impl.Point{}) - far), true
}

// hasNoneInside says of three numbers that turn left whether no point is inside their circle.
func hasNoneInside(s []impl.Point, l []int) bool {
	return !slices.ContainsFunc(s, func(p impl.Point) bool {
		in, _ := modelInCircle(s[l[0]], s[l[1]], s[l[2]], p)
		return in == 1
	})
}

func modelIsRound(s []impl.Point, t [][]int) (bool, bool) {
	if !modelTrios(s, t) || !allWithin(small, s...) {
		return false, false
	}
	return !slices.ContainsFunc(t, func(l []int) bool { return !hasNoneInside(s, l) }), true
}

// besideEdge tells the triangles that have both numbers, and their other ones.
func besideEdge(t [][]int, i, j int) (both [][]int, others []int) {
	for _, l := range t {
		if slices.Contains(l, i) && slices.Contains(l, j) {
			both = append(both, l)
			others = append(others, l[0]+l[1]+l[2]-i-j)
		}
	}
	return both, others
}

// turnedAt is modelFlip of triangles that are good, and numbers in the set.
func turnedAt(s []impl.Point, t [][]int, i, j int) ([][]int, bool) {
	both, o := besideEdge(t, i, j)
	if len(o) != 2 {
		return nil, false
	}
	four := sideBySide(ordered([]impl.Point{s[i], s[j], s[o[0]], s[o[1]]}))
	if len(four) != 4 || (slices.Index(four, s[i])-slices.Index(four, s[j]))%2 != 0 {
		return nil, false
	}
	rows := [][]int{leftward(s, o[0], o[1], i), leftward(s, o[0], o[1], j)}
	for _, l := range t {
		if !slices.Equal(l, both[0]) && !slices.Equal(l, both[1]) {
			rows = append(rows, slices.Clone(l))
		}
	}
	return inRows(rows), true
}

func modelFlip(s []impl.Point, t [][]int, i, j int) ([][]int, bool) {
	if !modelTrios(s, t) || !allWithin(small, s...) || i < 0 || i >= j || j >= len(s) {
		return nil, false
	}
	return turnedAt(s, t, i, j)
}

// turnedFirst turns the first pair that is to be turned.
func turnedFirst(s []impl.Point, t [][]int) ([][]int, bool) {
	pairs, _ := modelEdges(t)
	for _, e := range pairs {
		both, o := besideEdge(t, e[0], e[1])
		if len(o) != 2 {
			continue
		}
		l := both[0]
		if in, _ := modelInCircle(s[l[0]], s[l[1]], s[l[2]], s[o[1]]); in != 1 {
			continue
		}
		if turned, ok := turnedAt(s, t, e[0], e[1]); ok {
			return turned, true
		}
	}
	return t, false
}

func modelRoundOf(s []impl.Point) ([][]int, int, bool) {
	if !modelGood(s) || !allWithin(small, s...) {
		return nil, 0, false
	}
	t, _ := modelTriangles(s)
	for many := 0; ; many++ {
		turned, ok := turnedFirst(s, t)
		if !ok {
			return t, many, true
		}
		t = turned
	}
}

func modelIsCut(s []impl.Point, t [][]int) (bool, bool) {
	if !modelTrios(s, t) {
		return false, false
	}
	covered := 0
	for _, l := range t {
		corners := []impl.Point{s[l[0]], s[l[1]], s[l[2]]}
		covered += cross(corners[0], corners[1], corners[2])
		for _, p := range s {
			if !slices.Contains(corners, p) && placeIn(corners, p) != impl.WhOut {
				return false, true
			}
		}
	}
	all := 0
	eachSide(sideBySide(s), func(a, b impl.Point) { all += under(a, b) })
	return covered == all, true
}

// checkTriangles holds promise 11 for a good set, and tells its triangles.
func checkTriangles(t *testing.T, s []impl.Point) [][]int {
	t.Helper()
	cut, ok := impl.Triangles(s)
	if want, is := modelTriangles(s); !ok || !is || !samePairs(cut, want) {
		t.Fatal("Triangles", s, cut, ok, want)
	}
	checkWholeCut(t, s, cut)
	return cut
}

// checkWholeCut asks that triangles cover the hull and have no other point, and for as many of them, and as many edges, as there have to be (Euler): with one left out they are no cut.
func checkWholeCut(t *testing.T, s []impl.Point, cut [][]int) {
	t.Helper()
	if is, ok := impl.IsCut(s, cut); !is || !ok {
		t.Fatal("IsCut", s, cut, is, ok)
	}
	if is, ok := modelIsCut(s, cut); !is || !ok {
		t.Fatal("no cut", s, cut, is, ok)
	}
	triangles, pairs := 0, 0
	if len(sideBySide(s)) > 2 {
		rim, _ := modelRimOf(s)
		triangles, pairs = 2*len(s)-2-len(rim), 3*len(s)-3-len(rim)
	}
	e, ok := impl.EdgesOf(cut)
	if want, is := modelEdges(cut); !ok || !is || !samePairs(e, want) {
		t.Fatal("EdgesOf", s, cut, e, ok, want)
	}
	if len(cut) != triangles || len(e) != pairs {
		t.Fatal("so many triangles or edges", s, cut, triangles, e, pairs)
	}
	for k := range cut {
		if is, ok := impl.IsCut(s, slices.Delete(slices.Clone(cut), k, k+1)); is || !ok {
			t.Fatal("IsCut with one left out", s, cut, k, is, ok)
		}
	}
}

// checkRound holds promise 11 for a good set with no number beyond MaxSmall, and tells how many turns it took.
func checkRound(t *testing.T, s []impl.Point) int {
	t.Helper()
	round, many, ok := impl.RoundOf(s)
	if want, n, is := modelRoundOf(s); !ok || !is || many != n || !samePairs(round, want) {
		t.Fatal("RoundOf", s, round, many, ok, want, n)
	}
	checkWholeCut(t, s, round)
	if is, ok := impl.IsRound(s, round); !is || !ok {
		t.Fatal("IsRound", s, round, is, ok)
	}
	cut, _ := impl.Triangles(s)
	is, ok := impl.IsRound(s, cut)
	if want, good := modelIsRound(s, cut); is != want || ok != good || is != (many == 0) || is && !samePairs(cut, round) {
		t.Fatal("IsRound of Triangles", s, cut, is, ok, many)
	}
	checkAllRound(t, s, round)
	return many
}

// checkAllRound asks that just those three are a triangle of which nothing else is in the circle or on it, where there is nothing on any circle.
func checkAllRound(t *testing.T, s []impl.Point, round [][]int) {
	t.Helper()
	for i := range s {
		for j := range i {
			for k := range j {
				if cross(s[i], s[j], s[k]) == 0 {
					continue
				}
				l := leftward(s, i, j, k)
				in, on := 0, 0
				for _, p := range s {
					at, _ := modelInCircle(s[l[0]], s[l[1]], s[l[2]], p)
					if at == 1 {
						in++
						break
					}
					if at == 0 {
						on++
					}
				}
				_, there := slices.BinarySearchFunc(round, l, slices.Compare)
				if there && in > 0 || !there && in == 0 && on == 3 {
					t.Fatal("round or not", s, round, l, there, in, on)
				}
			}
		}
	}
}

// checkFlips turns each edge of triangles of a good set, and back; and each two numbers that are no edge. It tells how many can be turned.
func checkFlips(t *testing.T, s []impl.Point, cut [][]int) int {
	t.Helper()
	many := 0
	was, _ := modelIsCut(s, cut)
	for i := range len(s) + 1 {
		for j := range len(s) + 1 {
			turned, ok := impl.FlipAt(s, cut, i, j)
			want, is := modelFlip(s, cut, i, j)
			if ok != is || !samePairs(turned, want) {
				t.Fatal("FlipAt", s, cut, i, j, turned, ok, want, is)
			}
			if !ok {
				continue
			}
			many++
			if now, ok := impl.IsCut(s, turned); was && !now || !ok {
				t.Fatal("FlipAt of a cut", s, cut, i, j, turned, now, ok)
			}
			_, o := besideEdge(cut, i, j)
			back, ok := impl.FlipAt(s, turned, min(o[0], o[1]), max(o[0], o[1]))
			if was && (!ok || !samePairs(back, cut)) {
				t.Fatal("FlipAt and back", s, cut, i, j, turned, back, ok)
			}
		}
	}
	return many
}

// checkInCircle asks of any four points, and of the same three begun elsewhere and gone round to the right.
func checkInCircle(t *testing.T, a, b, c, d impl.Point) int {
	t.Helper()
	was := [4]impl.Point{a, b, c, d}
	in, ok := impl.InCircle(a, b, c, d)
	if want, is := modelInCircle(a, b, c, d); in != want || ok != is {
		t.Fatal("InCircle", a, b, c, d, in, ok, want, is)
	}
	other, told := impl.InCircle(b, c, a, d)
	another, again := impl.InCircle(c, a, b, d)
	if other != in || another != in || told != ok || again != ok {
		t.Fatal("InCircle begun elsewhere", a, b, c, d, in, other, another, ok, told, again)
	}
	back, so := impl.InCircle(b, a, c, d)
	if want, is := modelInCircle(b, a, c, d); back != want || so != is || so && ok {
		t.Fatal("InCircle the other way round", b, a, c, d, back, so)
	}
	if was != [4]impl.Point{a, b, c, d} {
		t.Fatal("written into", was, a, b, c, d)
	}
	return in
}

// allTrios has all triangles of a set, in order, at most so many.
func allTrios(s []impl.Point, most int) [][]int {
	var rows [][]int
	for i := range s {
		for j := range i {
			for k := range j {
				if cross(s[i], s[j], s[k]) != 0 {
					rows = append(rows, leftward(s, i, j, k))
				}
			}
		}
	}
	rows = inRows(rows)
	return rows[:min(most, len(rows)):min(most, len(rows))]
}

// laidRows is lists of numbers with room behind them, and behind each.
type laidRows struct {
	rows  [][]int
	whole [][]int
	first [][]int
}

// behindRow is what lies behind a laid row, and behind the rows: numbers that a good row may have.
var behindRow = []int{0, 1, 2}

func layRows(rows [][]int, room int) laidRows {
	var whole, first [][]int
	lay := func(l []int, many int) {
		whole = append(whole, slices.Clip(slices.Concat(l, slices.Repeat(behindRow, room))))
		first = append(first, slices.Clone(whole[len(whole)-1]))
		whole[len(whole)-1] = whole[len(whole)-1][:many]
	}
	for _, l := range rows {
		lay(l, len(l))
	}
	for range room {
		lay(behindRow, len(behindRow))
	}
	whole = slices.Clip(whole)
	return laidRows{rows: whole[:len(rows)], whole: whole, first: first}
}

func (l laidRows) untouched() bool {
	for i, row := range l.whole {
		if !slices.Equal(row[:cap(row)], l.first[i]) {
			return false
		}
	}
	return len(l.whole) == len(l.first)
}

// checkRows holds rows that are told against the wanted ones, and asks that each is memory of its own and that nothing lies behind them.
func checkRows(t *testing.T, name string, answer [][]int, ok bool, want [][]int, is bool, set laid, rows laidRows) {
	t.Helper()
	if !is {
		want = nil
	}
	if ok != is || !samePairs(answer, want) {
		t.Fatalf("%s of %v, %v = %v, %v; want %v, %v", name, set.list, rows.rows, answer, ok, want, is)
	}
	whole := answer[:cap(answer)]
	for _, l := range whole[len(answer):] {
		if cap(l) != 0 {
			t.Fatalf("%s hands out %v behind its rows", name, l)
		}
	}
	checkApart(t, name, answer)
	for i := range whole {
		whole[i] = []int{-7, -7, -7, -7}
	}
	if !set.untouched() || !rows.untouched() {
		t.Fatalf("%s has written into an argument, or shares memory with it: %v, %v", name, set.first, rows.first)
	}
}
