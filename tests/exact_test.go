package tests

import (
	"math"
	"math/big"
	"testing"

	"loop.example/g00780/impl"
)

type sideFunction func(a, b, c impl.Point) (int, bool)

// checkTurns holds what a side function tells of three points, in all their
// orders, against the words of the document.
func checkTurns(t *testing.T, name string, side sideFunction, a, b, c impl.Point) {
	t.Helper()
	want := bigSide(a, b, c)
	for _, same := range [][3]impl.Point{{a, b, c}, {b, c, a}, {c, a, b}} {
		if s, ok := side(same[0], same[1], same[2]); s != want || !ok {
			t.Fatalf("%s%v = %d, %v; want %d, true", name, same, s, ok, want)
		}
	}
	for _, other := range [][3]impl.Point{{b, a, c}, {a, c, b}, {c, b, a}} {
		if s, ok := side(other[0], other[1], other[2]); s != -want || !ok {
			t.Fatalf("%s%v = %d, %v; want %d, true", name, other, s, ok, -want)
		}
	}
}

func TestPromise1SmallTurns(t *testing.T) {
	for k := 0; k < 5*5*5*5*5*5; k++ {
		n, rest := [6]int{}, k
		for i := range n {
			n[i], rest = rest%5-2, rest/5
		}
		a, b, c := impl.Point{X: n[0], Y: n[1]}, impl.Point{X: n[2], Y: n[3]}, impl.Point{X: n[4], Y: n[5]}
		checkTurns(t, "SideOf", impl.SideOf, a, b, c)
		checkTurns(t, "SideWide", impl.SideWide, a, b, c)
		if s, ok := impl.DotSign(a, b, c); s != bigDot(a, b, c) || !ok {
			t.Fatal("DotSign", a, b, c, s, ok)
		}
	}
}

func TestPromise1NamedTurns(t *testing.T) {
	m, w := impl.MaxXY, impl.MaxWide
	for _, most := range []int{m, w} {
		side := sideFunction(impl.SideOf)
		if most == w {
			side = impl.SideWide
		}
		low, high := impl.Point{X: -most, Y: -most}, impl.Point{X: most, Y: most}
		for c, want := range map[impl.Point]int{
			{X: 0, Y: 0}:               0,
			{X: most - 1, Y: most - 1}: 0,
			low:                        0,
			high:                       0,
			{X: most - 1, Y: most}:     1,
			{X: most, Y: most - 1}:     -1,
			{X: -most, Y: 1 - most}:    1,
			{X: 1 - most, Y: -most}:    -1,
			{X: -most, Y: most}:        1,
			{X: most, Y: -most}:        -1,
			{X: 0, Y: 1}:               1,
			{X: 0, Y: -1}:              -1,
		} {
			if s, ok := side(low, high, c); s != want || !ok {
				t.Error("side", low, high, c, s, ok, want)
			}
			checkTurns(t, "side", side, low, high, c)
			checkTurns(t, "side", side, c, c, high)
			checkTurns(t, "side", side, c, c, c)
		}
	}
}

func TestPromise1GreatTurns(t *testing.T) {
	n := numbers{state: 1}
	for range 4000 {
		a, b, c := n.point(impl.MaxXY), n.point(impl.MaxXY), n.point(impl.MaxXY)
		checkTurns(t, "SideOf", impl.SideOf, a, b, c)
		checkTurns(t, "SideWide", impl.SideWide, a, b, c)
		a, b, c = n.point(impl.MaxWide), n.point(impl.MaxWide), n.point(impl.MaxWide)
		checkTurns(t, "SideWide", impl.SideWide, a, b, c)
	}
}

// Points on a long line, or just beside it, differ by less than a float or one word keeps.
func TestPromise1BesideALine(t *testing.T) {
	n := numbers{state: 2}
	for range 4000 {
		step := n.point(impl.MaxWide / 9)
		a, b := grown(step, -9, impl.Point{}), grown(step, 9, impl.Point{})
		on := grown(step, n.within(8), impl.Point{})
		if s, ok := impl.SideWide(a, b, on); s != 0 || !ok {
			t.Fatal("SideWide", a, b, on, s, ok)
		}
		checkTurns(t, "SideWide", impl.SideWide, a, b, on)
		beside := grown(on, 1, n.point(1))
		checkTurns(t, "SideWide", impl.SideWide, a, b, beside)
	}
}

func TestPromise1GreatTellsWhatSmallDoes(t *testing.T) {
	n := numbers{state: 3}
	grow := impl.MaxWide / impl.MaxXY
	for range 4000 {
		most := []int{2, 30, impl.MaxXY}[n.word()%3]
		a, b, c := n.point(most), n.point(most), n.point(most)
		small, ok := impl.SideOf(a, b, c)
		if !ok {
			t.Fatal("SideOf", a, b, c)
		}
		if great, ok := impl.SideWide(a, b, c); great != small || !ok {
			t.Fatal("SideWide", a, b, c, great, ok, small)
		}
		room := impl.MaxWide - most*grow
		by := n.point(room)
		a, b, c = grown(a, grow, by), grown(b, grow, by), grown(c, grow, by)
		if great, ok := impl.SideWide(a, b, c); great != small || !ok {
			t.Fatal("SideWide", a, b, c, great, ok, small)
		}
	}
}

func grown(p impl.Point, times int, by impl.Point) impl.Point {
	return impl.Point{X: p.X*times + by.X, Y: p.Y*times + by.Y}
}

func TestPromise1Dots(t *testing.T) {
	m := impl.MaxXY
	for _, c := range []struct {
		d, a, b impl.Point
		want    int
	}{
		{impl.Point{X: 0, Y: 0}, impl.Point{X: 1, Y: 2}, impl.Point{X: 3, Y: 4}, 0},
		{impl.Point{X: 1, Y: 0}, impl.Point{X: 1, Y: 2}, impl.Point{X: 3, Y: -9}, 1},
		{impl.Point{X: -1, Y: 0}, impl.Point{X: 1, Y: 2}, impl.Point{X: 3, Y: -9}, -1},
		{impl.Point{X: 2, Y: 1}, impl.Point{X: 0, Y: 0}, impl.Point{X: -1, Y: 2}, 0},
		{impl.Point{X: m, Y: m}, impl.Point{X: -m, Y: -m}, impl.Point{X: m, Y: m}, 1},
		{impl.Point{X: m, Y: m}, impl.Point{X: m, Y: m}, impl.Point{X: -m, Y: -m}, -1},
		{impl.Point{X: m, Y: m - 1}, impl.Point{X: m, Y: -m}, impl.Point{X: -m, Y: m}, -1},
		{impl.Point{X: m, Y: m}, impl.Point{X: m, Y: -m}, impl.Point{X: -m, Y: m}, 0},
	} {
		if s, ok := impl.DotSign(c.d, c.a, c.b); s != c.want || !ok {
			t.Error("DotSign", c, s, ok)
		}
	}
	n := numbers{state: 4}
	for range 4000 {
		d, a, b := n.point(m), n.point(m), n.point(m)
		there, ok := impl.DotSign(d, a, b)
		back, also := impl.DotSign(d, b, a)
		if want := bigDot(d, a, b); there != want || back != -want || !ok || !also {
			t.Fatal("DotSign", d, a, b, there, back, want)
		}
	}
}

func TestPromise1Order(t *testing.T) {
	l := []impl.Point{
		{X: math.MinInt, Y: math.MaxInt}, {X: -impl.MaxXY - 1, Y: 5}, {X: -1, Y: -1}, {X: -1, Y: 0}, {X: -1, Y: 1},
		{X: 0, Y: math.MinInt}, {X: 0, Y: -1}, {X: 0, Y: 0}, {X: 0, Y: math.MaxInt}, {X: 1, Y: -9}, {X: math.MaxInt, Y: math.MinInt},
	}
	for i, a := range l {
		for j, b := range l {
			if impl.LessPoint(a, b) != (i < j) {
				t.Error("LessPoint", a, b)
			}
		}
	}
}

func TestPromise1Products(t *testing.T) {
	most := 4 * impl.MaxWide
	for _, c := range []struct {
		x, y int
		want impl.Pair
	}{
		{0, 0, impl.Pair{}},
		{0, -most, impl.Pair{}},
		{most, 0, impl.Pair{}},
		{3, 5, impl.Pair{Hi: 0, Lo: 15}},
		{-3, 5, impl.Pair{Hi: -1, Lo: math.MaxUint64 - 14}},
		{3, -5, impl.Pair{Hi: -1, Lo: math.MaxUint64 - 14}},
		{-3, -5, impl.Pair{Hi: 0, Lo: 15}},
		{-1, 1, impl.Pair{Hi: -1, Lo: math.MaxUint64}},
		{1 << 32, 1 << 31, impl.Pair{Hi: 0, Lo: 1 << 63}},
		{1 << 32, 1 << 32, impl.Pair{Hi: 1, Lo: 0}},
		{-1 << 32, 1 << 32, impl.Pair{Hi: -1, Lo: 0}},
		{1<<32 + 1, -1 << 32, impl.Pair{Hi: -2, Lo: math.MaxUint64 - 1<<32 + 1}},
		{most, most, impl.Pair{Hi: 1 << 20, Lo: 0}},
		{-most, most, impl.Pair{Hi: -1 << 20, Lo: 0}},
		{-most, -most, impl.Pair{Hi: 1 << 20, Lo: 0}},
		{most, most - 1, impl.Pair{Hi: 1<<20 - 1, Lo: math.MaxUint64 - 1<<42 + 1}},
	} {
		if p, ok := impl.MulWide(c.x, c.y); p != c.want || !ok {
			t.Error("MulWide", c, p, ok)
		}
	}
	n := numbers{state: 5}
	for range 4000 {
		x, y := n.within(most), n.within(most)>>(n.word()%43)
		p, ok := impl.MulWide(x, y)
		want := bigProduct(big.NewInt(int64(x)), big.NewInt(int64(y)))
		if !ok || bigPair(p).Cmp(want) != 0 || impl.SignOf(p) != want.Sign() {
			t.Fatal("MulWide", x, y, p, ok)
		}
	}
}

func TestPromise1Differences(t *testing.T) {
	all, low, high := uint64(math.MaxUint64), math.MinInt, math.MaxInt
	for _, c := range []struct{ a, b, want impl.Pair }{
		{impl.Pair{}, impl.Pair{}, impl.Pair{}},
		{impl.Pair{Hi: 2, Lo: 5}, impl.Pair{Hi: 1, Lo: 3}, impl.Pair{Hi: 1, Lo: 2}},
		{impl.Pair{Hi: 2, Lo: 3}, impl.Pair{Hi: 1, Lo: 5}, impl.Pair{Hi: 0, Lo: all - 1}},
		{impl.Pair{Hi: 1}, impl.Pair{Lo: 1}, impl.Pair{Hi: 0, Lo: all}},
		{impl.Pair{}, impl.Pair{Lo: 1}, impl.Pair{Hi: -1, Lo: all}},
		{impl.Pair{}, impl.Pair{Lo: all}, impl.Pair{Hi: -1, Lo: 1}},
		{impl.Pair{Hi: -1}, impl.Pair{Hi: -1, Lo: all}, impl.Pair{Hi: -1, Lo: 1}},
		{impl.Pair{Hi: low}, impl.Pair{Lo: 1}, impl.Pair{Hi: high, Lo: all}},
		{impl.Pair{Hi: high, Lo: all}, impl.Pair{Hi: -1, Lo: all}, impl.Pair{Hi: low, Lo: 0}},
		{impl.Pair{}, impl.Pair{Hi: low}, impl.Pair{Hi: low}},
		{impl.Pair{Hi: high, Lo: all}, impl.Pair{Hi: low}, impl.Pair{Hi: -1, Lo: all}},
		{impl.Pair{Hi: low}, impl.Pair{Hi: high, Lo: all}, impl.Pair{Hi: 0, Lo: 1}},
	} {
		if p := impl.SubPairs(c.a, c.b); p != c.want {
			t.Error("SubPairs", c, p)
		}
	}
}

func TestPromise1PairSigns(t *testing.T) {
	for p, want := range map[impl.Pair]int{
		{}:                             0,
		{Lo: 1}:                        1,
		{Lo: 1 << 63}:                  1,
		{Lo: math.MaxUint64}:           1,
		{Hi: 1}:                        1,
		{Hi: 1, Lo: 1}:                 1,
		{Hi: math.MaxInt}:              1,
		{Hi: -1}:                       -1,
		{Hi: -1, Lo: 1}:                -1,
		{Hi: -1, Lo: math.MaxUint64}:   -1,
		{Hi: math.MinInt}:              -1,
		{Hi: math.MinInt, Lo: 1 << 63}: -1,
	} {
		if s := impl.SignOf(p); s != want {
			t.Error("SignOf", p, s)
		}
	}
}
