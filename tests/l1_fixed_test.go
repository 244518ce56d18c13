package tests

import (
	"math"
	"math/rand"
	"slices"
	"testing"

	"loop.example/replayverifier/impl"
)

const (
	one    = impl.One
	fixMax = impl.FixMax
)

// The square of largestRoot, divided by One, is the last one in range.
const largestRoot = 1414213

// fixedNumbers returns numbers in range in ascending order: both ends, what is
// around 0, One and the largest root, and some of every size in between.
func fixedNumbers() []int {
	list := []int{0}
	edges := []int{
		1, 2, 3, 7, 30, 31, 32, 33, 99, 100, 500, 501, 707,
		one - 1, one, one + 1, 1500, 2*one - 1, 2 * one, 2500, 3 * one,
		999999, one * one, 1000001,
		largestRoot - 1, largestRoot, largestRoot + 1,
		fixMax/one - 1, fixMax / one, fixMax/one + 1,
		fixMax/2 - 1, fixMax / 2, fixMax/2 + 1,
		fixMax - one, fixMax - 2, fixMax - 1, fixMax,
	}
	for _, n := range edges {
		list = append(list, n, -n)
	}
	draw := rand.New(rand.NewSource(1))
	for size := 10; size < fixMax; size *= 4 {
		for range 2 {
			list = append(list, draw.Intn(size), -draw.Intn(size))
		}
	}
	slices.Sort(list)
	return slices.Compact(list)
}

// outsideNumbers returns numbers out of range, among them some that would be
// in range if they were cut to 32 bits or negated.
func outsideNumbers() []int {
	return []int{
		fixMax + 1, -fixMax - 1, fixMax + one, -fixMax - one,
		math.MaxInt32, math.MinInt32,
		math.MaxInt/2 + 1, math.MinInt / 2,
		math.MaxInt - 1, math.MaxInt, math.MinInt + 1, math.MinInt,
	}
}

func size(n int) int {
	if n < 0 {
		return -n
	}
	return n
}

func sign(n int) int {
	switch {
	case n > 0:
		return 1
	case n < 0:
		return -1
	}
	return 0
}

// eachPair calls check for all pairs of numbers in range.
func eachPair(check func(a, b int)) {
	list := fixedNumbers()
	for _, a := range list {
		for _, b := range list {
			check(a, b)
		}
	}
}

// eachStep calls check for all neighbours in the list of numbers in range,
// with each number in range as a third one.
func eachStep(check func(smaller, larger, c int)) {
	list := fixedNumbers()
	for i := range len(list) - 1 {
		for _, c := range list {
			check(list[i], list[i+1], c)
		}
	}
}

type pairResult struct {
	a, b, want int
	ok         bool
}

func checkPairs(t *testing.T, name string, f func(a, b int) (int, bool), rows []pairResult) {
	t.Helper()
	for _, r := range rows {
		if got, ok := f(r.a, r.b); got != r.want || ok != r.ok {
			t.Errorf("%s(%d, %d) = %d, %v, want %d, %v", name, r.a, r.b, got, ok, r.want, r.ok)
		}
	}
}

func TestConstantsOfChapter1(t *testing.T) {
	if one != 1000 || fixMax != 2000000000 {
		t.Errorf("One is %d, FixMax is %d", one, fixMax)
	}
}

func TestFixAddRows(t *testing.T) {
	checkPairs(t, "FixAdd", impl.FixAdd, []pairResult{
		{1500, 2500, 4000, true},
		{1500, -2500, -1000, true},
		{0, 0, 0, true},
		{fixMax, 0, fixMax, true},
		{-fixMax, 0, -fixMax, true},
		{fixMax - 1, 1, fixMax, true},
		{1 - fixMax, -1, -fixMax, true},
		{fixMax, -fixMax, 0, true},
		{fixMax, 1, fixMax, false},
		{-fixMax, -1, -fixMax, false},
		{fixMax, fixMax, fixMax, false},
		{-fixMax, -fixMax, -fixMax, false},
	})
}

func TestFixMulRows(t *testing.T) {
	checkPairs(t, "FixMul", impl.FixMul, []pairResult{
		{1500, 2500, 3750, true},
		{1500, -2500, -3750, true},
		{-1500, -2500, 3750, true},
		{1, 999, 0, true},
		{-1, 999, 0, true},
		{1, 1999, 1, true},
		{-1, 1999, -1, true},
		{1999, -1, -1, true},
		{-1999, -1, 1, true},
		{fixMax, one, fixMax, true},
		{fixMax, -one, -fixMax, true},
		{fixMax, one - 1, 1998000000, true},
		{fixMax, one + 1, fixMax, false},
		{-fixMax, one + 1, -fixMax, false},
		{-fixMax, -one - 1, fixMax, false},
		{fixMax, fixMax, fixMax, false},
		{fixMax, -fixMax, -fixMax, false},
		{-fixMax, -fixMax, fixMax, false},
		{largestRoot, largestRoot, 1999998409, true},
		{largestRoot + 1, largestRoot + 1, fixMax, false},
		// The exact quotient is beyond the range, but is rounded to its end.
		{1001, 1998001999, fixMax, true},
		{1001, -1998001999, -fixMax, true},
		{3000, 666666667, fixMax, false},
		{-3000, 666666667, -fixMax, false},
	})
}

func TestFixDivRows(t *testing.T) {
	checkPairs(t, "FixDiv", impl.FixDiv, []pairResult{
		{1000, 3000, 333, true},
		{-1000, 3000, -333, true},
		{1000, -3000, -333, true},
		{-1000, -3000, 333, true},
		{2000, 3000, 666, true},
		{-2000, 3000, -666, true},
		{2000, -3000, -666, true},
		{-2000, -3000, 666, true},
		{7, 2000, 3, true},
		{-7, 2000, -3, true},
		{1, 1001, 0, true},
		{-1, 1001, 0, true},
		{1, -fixMax, 0, true},
		{0, 5, 0, true},
		{0, -5, 0, true},
		{fixMax, one, fixMax, true},
		{fixMax, -one, -fixMax, true},
		{-fixMax, -one, fixMax, true},
		{fixMax, one - 1, fixMax, false},
		{-fixMax, one - 1, -fixMax, false},
		{fixMax, 1 - one, -fixMax, false},
		{-fixMax, 1 - one, fixMax, false},
		{fixMax, 1, fixMax, false},
		{fixMax, -1, -fixMax, false},
		{fixMax / one, 1, fixMax, true},
		{-fixMax / one, 1, -fixMax, true},
		{fixMax/one + 1, 1, fixMax, false},
		{-fixMax/one - 1, 1, -fixMax, false},
		{fixMax, fixMax, one, true},
		{-fixMax, fixMax, -one, true},
	})
}

func TestFixSqrtRows(t *testing.T) {
	rows := []struct {
		a, want int
		ok      bool
	}{
		{0, 0, true},
		{1, 31, true},
		{2, 44, true},
		{9, 94, true},
		{10, 100, true},
		{999, 999, true},
		{1000, 1000, true},
		{1001, 1000, true},
		{2000, 1414, true},
		{3999, 1999, true},
		{4000, 2000, true},
		{fixMax, largestRoot, true},
		{-1, 0, false},
		{-1000, 0, false},
		{-fixMax, 0, false},
	}
	for _, r := range rows {
		if got, ok := impl.FixSqrt(r.a); got != r.want || ok != r.ok {
			t.Errorf("FixSqrt(%d) = %d, %v, want %d, %v", r.a, got, ok, r.want, r.ok)
		}
	}
}

func TestFixArgumentsOutOfRange(t *testing.T) {
	functions := []struct {
		name string
		f    func(a, b int) (int, bool)
	}{{"FixAdd", impl.FixAdd}, {"FixMul", impl.FixMul}, {"FixDiv", impl.FixDiv}}
	others := append(fixedNumbers(), outsideNumbers()...)
	for _, g := range functions {
		for _, n := range outsideNumbers() {
			for _, m := range others {
				checkPairs(t, g.name, g.f, []pairResult{{n, m, 0, false}, {m, n, 0, false}})
			}
		}
	}
	for _, n := range outsideNumbers() {
		if root, ok := impl.FixSqrt(n); root != 0 || ok {
			t.Errorf("FixSqrt(%d) = %d, %v", n, root, ok)
		}
	}
}

func TestP01(t *testing.T) {
	for _, n := range fixedNumbers() {
		if !impl.FixOk(n) || !impl.FixOk(-n) {
			t.Errorf("FixOk(%d) = %v, of its negation %v", n, impl.FixOk(n), impl.FixOk(-n))
		}
	}
	for _, n := range outsideNumbers() {
		if impl.FixOk(n) || impl.FixOk(-n) {
			t.Errorf("FixOk(%d) = %v, of its negation %v", n, impl.FixOk(n), impl.FixOk(-n))
		}
	}
}

func TestP02(t *testing.T) {
	eachPair(func(a, b int) {
		sum, exact := a+b, true
		if size(sum) > fixMax {
			sum, exact = sign(sum)*fixMax, false
		}
		if got, ok := impl.FixAdd(a, b); got != sum || ok != exact {
			t.Errorf("FixAdd(%d, %d) = %d, %v", a, b, got, ok)
		}
	})
}

func TestP03(t *testing.T) {
	eachPair(func(a, b int) {
		sum, ok := impl.FixAdd(a, b)
		checkPairs(t, "FixAdd", impl.FixAdd, []pairResult{{b, a, sum, ok}, {a, 0, a, true}, {0, a, a, true}})
	})
}

func TestP04(t *testing.T) {
	eachPair(func(a, b int) {
		if sum, ok := impl.FixAdd(a, b); ok {
			checkPairs(t, "FixAdd", impl.FixAdd, []pairResult{{sum, -a, b, true}, {sum, -b, a, true}})
		}
	})
}

func TestP05(t *testing.T) {
	eachPair(func(a, b int) {
		exact := a * b
		product, ok := impl.FixMul(a, b)
		if !ok {
			if size(exact) < (fixMax+1)*one || product != sign(exact)*fixMax {
				t.Errorf("FixMul(%d, %d) = %d, %v", a, b, product, ok)
			}
			return
		}
		if size(exact-product*one) >= one || size(product*one) > size(exact) {
			t.Errorf("FixMul(%d, %d) = %d is too far away or too large", a, b, product)
		}
		if product != 0 && sign(product) != sign(exact) {
			t.Errorf("FixMul(%d, %d) = %d has the wrong sign", a, b, product)
		}
	})
}

func TestP06(t *testing.T) {
	eachPair(func(a, b int) {
		product, ok := impl.FixMul(a, b)
		checkPairs(t, "FixMul", impl.FixMul, []pairResult{
			{b, a, product, ok},
			{-a, b, -product, ok},
			{a, -b, -product, ok},
			{a, one, a, true},
			{-a, one, -a, true},
			{a, -one, -a, true},
		})
	})
}

func TestP07(t *testing.T) {
	eachStep(func(smaller, larger, c int) {
		if c < 0 {
			return
		}
		p, _ := impl.FixMul(smaller, c)
		q, _ := impl.FixMul(larger, c)
		if p > q {
			t.Errorf("FixMul by %d of %d is %d, of %d it is %d", c, smaller, p, larger, q)
		}
	})
}

func TestP08(t *testing.T) {
	eachPair(func(a, b int) {
		if b == 0 {
			return
		}
		quotient, ok := impl.FixDiv(a, b)
		if !ok {
			if size(a)*one < (fixMax+1)*size(b) || quotient != sign(a)*sign(b)*fixMax {
				t.Errorf("FixDiv(%d, %d) = %d, %v", a, b, quotient, ok)
			}
			return
		}
		if size(a*one-quotient*b) >= size(b) || size(quotient*b) > size(a*one) {
			t.Errorf("FixDiv(%d, %d) = %d", a, b, quotient)
		}
	})
}

func TestP09(t *testing.T) {
	for _, n := range fixedNumbers() {
		checkPairs(t, "FixDiv", impl.FixDiv, []pairResult{{n, 0, sign(n) * fixMax, false}})
	}
}

func TestP10(t *testing.T) {
	for _, n := range fixedNumbers() {
		checkPairs(t, "FixDiv", impl.FixDiv, []pairResult{{n, one, n, true}})
		if n != 0 {
			checkPairs(t, "FixDiv", impl.FixDiv, []pairResult{{n, n, one, true}})
		}
	}
}

// rootNumbers returns numbers that are not negative, in ascending order, with
// those at which roots change.
func rootNumbers() []int {
	list := fixedNumbers()
	for root := 1; root <= largestRoot; root += root/7 + 1 {
		n := root * root / one
		list = append(list, n, n+1)
	}
	list = slices.DeleteFunc(list, func(n int) bool { return n < 0 || n > fixMax })
	slices.Sort(list)
	return slices.Compact(list)
}

func TestP11(t *testing.T) {
	for _, n := range rootNumbers() {
		root, ok := impl.FixSqrt(n)
		if !ok || root < 0 || root*root > n*one || (root+1)*(root+1) <= n*one {
			t.Errorf("FixSqrt(%d) = %d, %v", n, root, ok)
		}
	}
}

func TestP12(t *testing.T) {
	before := 0
	for _, n := range rootNumbers() {
		root, ok := impl.FixSqrt(n)
		if !ok || root < before {
			t.Errorf("FixSqrt(%d) = %d, %v, and %d for the number before", n, root, ok, before)
		}
		before = root
	}
	for _, n := range append(fixedNumbers(), outsideNumbers()...) {
		if _, ok := impl.FixSqrt(n); ok != (0 <= n && n <= fixMax) {
			t.Errorf("FixSqrt(%d) returned %v", n, ok)
		}
	}
}

func TestP13(t *testing.T) {
	eachStep(func(smaller, larger, c int) {
		p, _ := impl.FixAdd(smaller, c)
		q, _ := impl.FixAdd(larger, c)
		if p > q {
			t.Errorf("FixAdd with %d of %d is %d, of %d it is %d", c, smaller, p, larger, q)
		}
	})
}

func TestP14(t *testing.T) {
	eachPair(func(a, b int) {
		checkPairs(t, "FixMul", impl.FixMul, []pairResult{{a, 0, 0, true}, {0, a, 0, true}})
		if size(a*b) < one {
			checkPairs(t, "FixMul", impl.FixMul, []pairResult{{a, b, 0, true}})
		}
	})
}

func TestP15(t *testing.T) {
	eachPair(func(a, b int) {
		quotient, ok := impl.FixDiv(a, b)
		if !ok {
			return
		}
		if product, ok := impl.FixMul(quotient, b); !ok || size(product) > size(a) {
			t.Errorf("FixDiv(%d, %d) = %d, times the divisor it is %d, %v", a, b, quotient, product, ok)
		}
	})
}

func TestP16(t *testing.T) {
	// The squares of multiples of 100, and of no others, are multiples of One.
	for n := -largestRoot / 100 * 100; n <= largestRoot; n += 100 {
		square, ok := impl.FixMul(n, n)
		if !ok {
			t.Fatalf("FixMul(%d, %d) fails", n, n)
		}
		if root, ok := impl.FixSqrt(square); root != size(n) || !ok {
			t.Errorf("FixSqrt(%d) = %d, %v, want the size of %d", square, root, ok, n)
		}
	}
}
