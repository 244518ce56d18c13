package impl

// One is the fixed-point number for 1.
const One = 1000

// FixMax is the largest fixed-point number.
const FixMax = 2000000000

// fixed is a fixed-point number, or a result that may have left the range.
// It has 64 bits on every machine because a product of two numbers in range
// needs 63 of them.
type fixed int64

func (n fixed) inRange() bool {
	return -FixMax <= n && n <= FixMax
}

// nearest returns n and true, or the end of the range on its side and false.
func (n fixed) nearest() (int, bool) {
	switch {
	case n > FixMax:
		return FixMax, false
	case n < -FixMax:
		return -FixMax, false
	}
	return int(n), true
}

// end returns the end of the range on the side of n, or 0 for 0.
func (n fixed) end() int {
	switch {
	case n > 0:
		return FixMax
	case n < 0:
		return -FixMax
	}
	return 0
}

// root returns the greatest integer whose square is at most n, which is not
// negative.
func (n fixed) root() fixed {
	low, high := fixed(0), n+1
	for high-low > 1 {
		middle := low + (high-low)/2
		// The square of the middle could overflow, the quotient cannot.
		if middle <= n/middle {
			low = middle
		} else {
			high = middle
		}
	}
	return low
}

// FixOk reports whether n is a fixed-point number.
func FixOk(n int) bool {
	return fixed(n).inRange()
}

// FixAdd returns the sum of two numbers, and whether it is exact.
func FixAdd(a int, b int) (int, bool) {
	if !FixOk(a) || !FixOk(b) {
		return 0, false
	}
	return (fixed(a) + fixed(b)).nearest()
}

// FixMul returns the product of two numbers, and whether it is in range.
func FixMul(a int, b int) (int, bool) {
	if !FixOk(a) || !FixOk(b) {
		return 0, false
	}
	return (fixed(a) * fixed(b) / One).nearest()
}

// FixDiv returns the quotient of two numbers, and whether it is in range.
func FixDiv(a int, b int) (int, bool) {
	if !FixOk(a) || !FixOk(b) {
		return 0, false
	}
	if b == 0 {
		return fixed(a).end(), false
	}
	return (fixed(a) * One / fixed(b)).nearest()
}

// FixSqrt returns the square root of a number.
func FixSqrt(a int) (int, bool) {
	if !FixOk(a) || a < 0 {
		return 0, false
	}
	return int((fixed(a) * One).root()), true
}
