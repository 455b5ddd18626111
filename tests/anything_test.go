package tests

import (
	"math"
	"testing"

	"loop.example/g00780/impl"
)

// wantSign tells what a function of good points, or wide ones, answers: the sign where all are so, else the zero answer.
func wantSign(ok bool, sign int) (int, bool) {
	if !ok {
		return 0, false
	}
	return sign, true
}

// checkPoints asks all that takes points, and that its arguments stay as they were.
func checkPoints(t *testing.T, a, b, c impl.Point) {
	t.Helper()
	before := [3]impl.Point{a, b, c}
	good, wide := allWithin(impl.MaxXY, a, b, c), allWithin(impl.MaxWide, a, b, c)
	if impl.GoodPoint(a) != allWithin(impl.MaxXY, a) {
		t.Fatal("GoodPoint", a)
	}
	s, ok := impl.SideOf(a, b, c)
	if want, is := wantSign(good, bigSide(a, b, c)); s != want || ok != is {
		t.Fatal("SideOf", a, b, c, s, ok)
	}
	s, ok = impl.SideWide(a, b, c)
	if want, is := wantSign(wide, bigSide(a, b, c)); s != want || ok != is {
		t.Fatal("SideWide", a, b, c, s, ok)
	}
	s, ok = impl.DotSign(a, b, c)
	if want, is := wantSign(good, bigDot(a, b, c)); s != want || ok != is {
		t.Fatal("DotSign", a, b, c, s, ok)
	}
	if less := a.X < b.X || a.X == b.X && a.Y < b.Y; impl.LessPoint(a, b) != less {
		t.Fatal("LessPoint", a, b)
	}
	if before != [3]impl.Point{a, b, c} {
		t.Fatal("written into", before, a, b, c)
	}
}

// One number at a time goes beyond its bound, in each place of each point.
func TestPromise18OneNumberBeyond(t *testing.T) {
	for _, e := range edges() {
		for place := range 6 {
			n := [6]int{1, 2, 5, -3, -4, 7}
			n[place] = e
			checkPoints(t, impl.Point{X: n[0], Y: n[1]}, impl.Point{X: n[2], Y: n[3]}, impl.Point{X: n[4], Y: n[5]})
		}
		p := impl.Point{X: e, Y: e}
		checkPoints(t, p, p, p)
		checkPoints(t, impl.Point{}, p, impl.Point{X: -e, Y: e})
	}
}

func TestPromise18AnyPoints(t *testing.T) {
	n := numbers{state: 6}
	for _, l := range [][]int{edgesUpTo(impl.MaxXY + 1), edgesUpTo(impl.MaxWide + 1), edges()} {
		for range 6000 {
			a := impl.Point{X: n.pick(l), Y: n.pick(l)}
			b := impl.Point{X: n.pick(l), Y: n.pick(l)}
			c := impl.Point{X: n.pick(l), Y: n.pick(l)}
			checkPoints(t, a, b, c)
		}
	}
	for range 2000 {
		a := impl.Point{X: int(n.word()), Y: int(n.word())}
		b := impl.Point{X: int(n.word()), Y: int(n.word())}
		checkPoints(t, a, b, impl.Point{X: int(n.word()), Y: int(n.word())})
	}
}

func TestPromise18Bounds(t *testing.T) {
	m, w := impl.MaxXY, impl.MaxWide
	for _, p := range []impl.Point{{X: m, Y: m}, {X: -m, Y: m}, {X: m, Y: -m}, {X: -m, Y: -m}, {}} {
		if _, ok := impl.SideOf(p, p, p); !ok || !impl.GoodPoint(p) {
			t.Error("met exactly", p)
		}
	}
	for _, p := range []impl.Point{{X: m + 1}, {X: -m - 1}, {Y: m + 1}, {Y: -m - 1}, {X: math.MinInt}, {Y: math.MinInt}, {X: math.MaxInt}, {Y: math.MaxInt}} {
		if _, ok := impl.SideOf(p, p, p); ok || impl.GoodPoint(p) {
			t.Error("beyond", p)
		}
	}
	for _, p := range []impl.Point{{X: w, Y: w}, {X: -w, Y: -w}, {X: m + 1}, {Y: -m - 1}} {
		if _, ok := impl.SideWide(p, p, p); !ok {
			t.Error("met exactly", p)
		}
	}
	for _, p := range []impl.Point{{X: w + 1}, {X: -w - 1}, {Y: w + 1}, {Y: -w - 1}, {X: math.MinInt}, {Y: math.MinInt}, {X: math.MaxInt}, {Y: math.MaxInt}} {
		if s, ok := impl.SideWide(p, impl.Point{X: 1, Y: 1}, impl.Point{X: 2}); s != 0 || ok {
			t.Error("beyond", p, s, ok)
		}
	}
}

func TestPromise18AnyFactors(t *testing.T) {
	most := 4 * impl.MaxWide
	for _, x := range edges() {
		for _, y := range edges() {
			p, ok := impl.MulWide(x, y)
			if !allWithin(most, impl.Point{X: x, Y: y}) {
				if p != (impl.Pair{}) || ok {
					t.Fatal("MulWide", x, y, p, ok)
				}
				continue
			}
			want := bigProduct(bigLess(x, 0), bigLess(y, 0))
			if !ok || bigPair(p).Cmp(want) != 0 {
				t.Fatal("MulWide", x, y, p, ok)
			}
		}
	}
}

func TestPromise18AnyPairs(t *testing.T) {
	var pairs []impl.Pair
	for _, high := range []int{math.MinInt, math.MinInt + 1, -2, -1, 0, 1, 2, math.MaxInt - 1, math.MaxInt} {
		for _, low := range []uint64{0, 1, 2, 1<<63 - 1, 1 << 63, 1<<63 + 1, math.MaxUint64 - 1, math.MaxUint64} {
			pairs = append(pairs, impl.Pair{Hi: high, Lo: low})
		}
	}
	n := numbers{state: 7}
	for range 100 {
		pairs = append(pairs, impl.Pair{Hi: int(n.word()), Lo: n.word()})
	}
	for _, a := range pairs {
		if s := impl.SignOf(a); s != bigPair(a).Sign() {
			t.Fatal("SignOf", a, s)
		}
		for _, b := range pairs {
			before := [2]impl.Pair{a, b}
			d := impl.SubPairs(a, b)
			want := bigPair(a)
			want = foldBig(want.Sub(want, bigPair(b)))
			if bigPair(d).Cmp(want) != 0 || before != [2]impl.Pair{a, b} {
				t.Fatal("SubPairs", a, b, d)
			}
		}
	}
}

// Nothing is kept: what is asked again is told again, whatever was asked between.
func TestPromise18AskedAgain(t *testing.T) {
	n := numbers{state: 8}
	l := edges()
	type asked struct {
		a, b, c impl.Point
		side    int
		wide    int
		product impl.Pair
	}
	var first []asked
	for range 500 {
		a, b, c := impl.Point{X: n.pick(l), Y: n.pick(l)}, n.point(impl.MaxXY), n.point(impl.MaxXY)
		side, _ := impl.SideOf(a, b, c)
		wide, _ := impl.SideWide(a, b, c)
		product, _ := impl.MulWide(a.X, b.Y)
		first = append(first, asked{a, b, c, side, wide, product})
	}
	for i := len(first) - 1; i >= 0; i-- {
		k := first[i]
		side, _ := impl.SideOf(k.a, k.b, k.c)
		wide, _ := impl.SideWide(k.a, k.b, k.c)
		product, _ := impl.MulWide(k.a.X, k.b.Y)
		if side != k.side || wide != k.wide || product != k.product {
			t.Fatal("asked again", k, side, wide, product)
		}
	}
}
