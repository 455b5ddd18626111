package tests

import (
	"math"
	"math/big"
	"slices"

	"loop.example/g00780/impl"
)

// numbers is a rule that makes the same row of numbers in every run.
type numbers struct{ state uint64 }

func (n *numbers) word() uint64 {
	n.state += 0x9e3779b97f4a7c15
	z := n.state
	z = (z ^ z>>30) * 0xbf58476d1ce4e5b9
	z = (z ^ z>>27) * 0x94d049bb133111eb
	return z ^ z>>31
}

// within tells a number in -most..most.
func (n *numbers) within(most int) int {
	return int(n.word()%uint64(2*most+1)) - most
}

func (n *numbers) point(most int) impl.Point {
	return impl.Point{X: n.within(most), Y: n.within(most)}
}

// pick tells one of a list.
func (n *numbers) pick(l []int) int {
	return l[n.word()%uint64(len(l))]
}

// edges has the numbers at each bound of chapter 1, beside it and beyond it, on both sides of 0.
func edges() []int {
	l := []int{0, math.MaxInt, math.MaxInt - 1, math.MinInt, math.MinInt + 1}
	for _, b := range []int{1, 2, 3, impl.MaxXY, impl.MaxWide, 2 * impl.MaxWide, 4 * impl.MaxWide, 1 << 31, 1 << 32, 1 << 62} {
		l = append(l, b-1, b, b+1, 1-b, -b, -b-1)
	}
	return l
}

func edgesUpTo(most int) []int {
	return slices.DeleteFunc(edges(), func(e int) bool { return e < -most || e > most })
}

// bigSide is the sign of the document's words, worked out with numbers of any length.
func bigSide(a, b, c impl.Point) int {
	left := bigProduct(bigLess(b.X, a.X), bigLess(c.Y, a.Y))
	right := bigProduct(bigLess(b.Y, a.Y), bigLess(c.X, a.X))
	return left.Sub(left, right).Sign()
}

func bigDot(d, a, b impl.Point) int {
	x := bigProduct(big.NewInt(int64(d.X)), bigLess(b.X, a.X))
	y := bigProduct(big.NewInt(int64(d.Y)), bigLess(b.Y, a.Y))
	return x.Add(x, y).Sign()
}

func bigLess(x, y int) *big.Int {
	return new(big.Int).Sub(big.NewInt(int64(x)), big.NewInt(int64(y)))
}

func bigProduct(x, y *big.Int) *big.Int {
	return new(big.Int).Mul(x, y)
}

// bigPair is what a pair stands for.
func bigPair(p impl.Pair) *big.Int {
	n := new(big.Int).Lsh(big.NewInt(int64(p.Hi)), 64)
	return n.Add(n, new(big.Int).SetUint64(p.Lo))
}

// foldBig is the number in -2^127..2^127-1 that is n modulo 2 to the 128.
func foldBig(n *big.Int) *big.Int {
	all := new(big.Int).Lsh(big.NewInt(1), 128)
	half := new(big.Int).Lsh(big.NewInt(1), 127)
	m := new(big.Int).Mod(n, all)
	if m.Cmp(half) >= 0 {
		m.Sub(m, all)
	}
	return m
}

func allWithin(most int, l ...impl.Point) bool {
	for _, p := range l {
		if p.X > most || p.X < -most || p.Y > most || p.Y < -most {
			return false
		}
	}
	return true
}
