package impl

import "math/bits"

const MaxXY = 1000000
const MaxWide = 1099511627776

type Point struct {
	X int
	Y int
}

type Pair struct {
	Hi int
	Lo uint64
}

// The signs, counted up from the one below 0.
const (
	signBelow = iota - 1
	signZero
	signAbove
)

// The kinds of numbers that have a bound, counted up as the places of the table of bounds.
const (
	goodNumber = iota
	wideNumber
	factorNumber
	countNumber
	smallNumber
)

// Each kind goes as far below 0 as above. A difference of two wide numbers
// is at most half of the bound of a factor.
var bounds = [...]int{
	goodNumber:   MaxXY,
	wideNumber:   MaxWide,
	factorNumber: 4 * MaxWide,
	countNumber:  MaxCount,
	smallNumber:  MaxSmall,
}

// GoodPoint says whether both numbers of p are in -MaxXY..MaxXY.
func GoodPoint(p Point) bool {
	return pointInBounds(p, goodNumber)
}

// SideOf tells 1 where c is left of the way from a to b, -1 where it is
// right of it, 0 where all are in one line; of good points alone.
func SideOf(a Point, b Point, c Point) (int, bool) {
	if !GoodPoint(a) || !GoodPoint(b) || !GoodPoint(c) {
		return 0, false
	}
	return signOfNumber(triangle{a, b, c}.twiceArea()), true
}

// DotSign tells 1 where b is farther than a in the direction d, -1 where it
// is less far, 0 where both are as far; of good points alone.
func DotSign(d Point, a Point, b Point) (int, bool) {
	if !GoodPoint(d) || !GoodPoint(a) || !GoodPoint(b) {
		return 0, false
	}
	return signOfNumber(d.X*(b.X-a.X) + d.Y*(b.Y-a.Y)), true
}

// LessPoint says whether a has the lesser X, or the same X and the lesser Y.
func LessPoint(a Point, b Point) bool {
	if a.X != b.X {
		return a.X < b.X
	}
	return a.Y < b.Y
}

// MulWide tells the pair that stands for x times y, both in
// -4 MaxWide..4 MaxWide.
func MulWide(x int, y int) (Pair, bool) {
	if !inBounds(x, factorNumber) || !inBounds(y, factorNumber) {
		return Pair{}, false
	}
	return product(x, y), true
}

// SubPairs tells the pair that stands for a less b, modulo 2 to the 128.
func SubPairs(a Pair, b Pair) Pair {
	low, borrow := bits.Sub64(a.Lo, b.Lo, 0)
	high, _ := bits.Sub64(uint64(a.Hi), uint64(b.Hi), borrow)
	return Pair{Hi: int(high), Lo: low}
}

// SignOf tells the sign of what p stands for.
func SignOf(p Pair) int {
	// Lo is less than one step of Hi, so it decides only where Hi is 0.
	if p.Hi == 0 && p.Lo != 0 {
		return signAbove
	}
	return signOfNumber(p.Hi)
}

// SideWide tells what SideOf is said to tell, of points with numbers in
// -MaxWide..MaxWide.
func SideWide(a Point, b Point, c Point) (int, bool) {
	if !pointInBounds(a, wideNumber) || !pointInBounds(b, wideNumber) || !pointInBounds(c, wideNumber) {
		return 0, false
	}
	left := product(b.X-a.X, c.Y-a.Y)
	right := product(b.Y-a.Y, c.X-a.X)
	return SignOf(SubPairs(left, right)), true
}

func inBounds(n int, kind int) bool {
	return -bounds[kind] <= n && n <= bounds[kind]
}

func pointInBounds(p Point, kind int) bool {
	return inBounds(p.X, kind) && inBounds(p.Y, kind)
}

func signOfNumber(n int) int {
	switch {
	case n < 0:
		return signBelow
	case n > 0:
		return signAbove
	}
	return signZero
}

// product is exact for any two numbers.
func product(x int, y int) Pair {
	high, low := bits.Mul64(uint64(x), uint64(y))
	// A number below 0 was taken as 2 to the 64 more than it is: that much
	// times the other one is too much, and it stands in the high word.
	if x < 0 {
		high -= uint64(y)
	}
	if y < 0 {
		high -= uint64(x)
	}
	return Pair{Hi: int(high), Lo: low}
}
