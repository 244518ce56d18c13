package tests

import (
	"math"
	"math/rand"
	"testing"

	"loop.example/replayverifier/impl"
)

type vec = impl.Vec

const maxCoordinate = impl.MaxCoordinate

// vectors returns vectors in range: all pairs of coordinates at both ends of
// the range, around 0 and One, and some of every size in between.
func vectors() []vec {
	coordinates := []int{0}
	for _, n := range []int{1, 2, 30, 383, one - 1, one, one + 1, 500000, maxCoordinate - 1, maxCoordinate} {
		coordinates = append(coordinates, n, -n)
	}
	var list []vec
	for _, x := range coordinates {
		for _, y := range coordinates {
			list = append(list, vec{X: x, Y: y})
		}
	}
	draw := rand.New(rand.NewSource(2))
	for size := 10; size <= maxCoordinate; size *= 10 {
		for range 10 {
			list = append(list, vec{X: draw.Intn(2*size+1) - size, Y: draw.Intn(2*size+1) - size})
		}
	}
	return list
}

// outsideCoordinates returns numbers that are no coordinates, among them some
// whose sums with others, or lower 32 bits, are in range again.
func outsideCoordinates() []int {
	return append(outsideNumbers(),
		maxCoordinate+1, -maxCoordinate-1, 2*maxCoordinate, -2*maxCoordinate,
		fixMax, -fixMax, 1<<32, 1<<32+one, -1<<32)
}

// outsideVectors returns vectors with one or both coordinates out of range.
func outsideVectors() []vec {
	var list []vec
	for _, n := range outsideCoordinates() {
		for _, m := range []int{0, one, maxCoordinate, -maxCoordinate, n, -n} {
			list = append(list, vec{X: n, Y: m}, vec{X: m, Y: n})
		}
	}
	return list
}

// vectorLimits returns limits for VecClamp: both ends of their range, some in
// between, and those around the length of v, as far as they are in range.
func vectorLimits(v vec) []int {
	list := []int{0, 1, 2, 3, 999, one, 2000, 707107, maxCoordinate - 1, maxCoordinate}
	length, _ := impl.VecLength(v)
	for n := length - 1; n <= length+1; n++ {
		if 0 <= n && n <= maxCoordinate {
			list = append(list, n)
		}
	}
	return list
}

func negated(v vec) vec {
	return vec{X: -v.X, Y: -v.Y}
}

// turned returns v after a quarter turn.
func turned(v vec) vec {
	return vec{X: -v.Y, Y: v.X}
}

func coordinatesInRange(v vec) bool {
	return size(v.X) <= maxCoordinate && size(v.Y) <= maxCoordinate
}

// eachVectorPair calls check for all pairs of vectors in range.
func eachVectorPair(check func(a, b vec)) {
	list := vectors()
	for _, a := range list {
		for _, b := range list {
			check(a, b)
		}
	}
}

func checkAdd(t *testing.T, a, b, want vec, wantOk bool) {
	t.Helper()
	if got, ok := impl.VecAdd(a, b); got != want || ok != wantOk {
		t.Errorf("VecAdd(%v, %v) = %v, %v, want %v, %v", a, b, got, ok, want, wantOk)
	}
}

func checkScale(t *testing.T, v vec, k int, want vec, wantOk bool) {
	t.Helper()
	if got, ok := impl.VecScale(v, k); got != want || ok != wantOk {
		t.Errorf("VecScale(%v, %d) = %v, %v, want %v, %v", v, k, got, ok, want, wantOk)
	}
}

func checkDot(t *testing.T, a, b vec, want int, wantOk bool) {
	t.Helper()
	if got, ok := impl.VecDot(a, b); got != want || ok != wantOk {
		t.Errorf("VecDot(%v, %v) = %d, %v, want %d, %v", a, b, got, ok, want, wantOk)
	}
}

func checkLength(t *testing.T, v vec, want int, wantOk bool) {
	t.Helper()
	if got, ok := impl.VecLength(v); got != want || ok != wantOk {
		t.Errorf("VecLength(%v) = %d, %v, want %d, %v", v, got, ok, want, wantOk)
	}
}

func checkDirection(t *testing.T, d int, want vec, wantOk bool) {
	t.Helper()
	if got, ok := impl.VecDirection(d); got != want || ok != wantOk {
		t.Errorf("VecDirection(%d) = %v, %v, want %v, %v", d, got, ok, want, wantOk)
	}
}

func checkClamp(t *testing.T, v vec, most int, want vec, wantOk bool) {
	t.Helper()
	if got, ok := impl.VecClamp(v, most); got != want || ok != wantOk {
		t.Errorf("VecClamp(%v, %d) = %v, %v, want %v, %v", v, most, got, ok, want, wantOk)
	}
}

// lengthOf returns VecLength of a vector for which it must not fail.
func lengthOf(t *testing.T, v vec) int {
	t.Helper()
	length, ok := impl.VecLength(v)
	if !ok {
		t.Errorf("VecLength(%v) fails", v)
	}
	return length
}

// directionOf returns VecDirection of d modulo the number of directions.
func directionOf(t *testing.T, d int) vec {
	t.Helper()
	v, ok := impl.VecDirection(d % impl.Directions)
	if !ok {
		t.Errorf("VecDirection(%d) fails", d%impl.Directions)
	}
	return v
}

func TestConstantsOfChapter2(t *testing.T) {
	if maxCoordinate != 1000000 || impl.Directions != 16 {
		t.Errorf("MaxCoordinate is %d, Directions is %d", maxCoordinate, impl.Directions)
	}
}

func TestVecOk(t *testing.T) {
	for _, v := range vectors() {
		if !impl.VecOk(v) {
			t.Errorf("VecOk(%v) is false", v)
		}
	}
	for _, v := range outsideVectors() {
		if impl.VecOk(v) {
			t.Errorf("VecOk(%v) is true", v)
		}
	}
}

func TestVecAddRows(t *testing.T) {
	checkAdd(t, vec{X: 3000, Y: 4000}, vec{X: -1, Y: 2}, vec{X: 2999, Y: 4002}, true)
	checkAdd(t, vec{}, vec{}, vec{}, true)
	checkAdd(t, vec{X: maxCoordinate - 1, Y: 1 - maxCoordinate}, vec{X: 1, Y: -1}, vec{X: maxCoordinate, Y: -maxCoordinate}, true)
	checkAdd(t, vec{X: maxCoordinate, Y: -maxCoordinate}, vec{X: -maxCoordinate, Y: maxCoordinate}, vec{}, true)
	checkAdd(t, vec{X: maxCoordinate}, vec{X: 1}, vec{}, false)
	checkAdd(t, vec{X: -maxCoordinate}, vec{X: -1}, vec{}, false)
	checkAdd(t, vec{Y: maxCoordinate}, vec{X: 5, Y: 1}, vec{}, false)
	checkAdd(t, vec{Y: -maxCoordinate}, vec{X: 5, Y: -1}, vec{}, false)
	checkAdd(t, vec{X: maxCoordinate, Y: maxCoordinate}, vec{X: maxCoordinate, Y: maxCoordinate}, vec{}, false)
}

func TestVecScaleRows(t *testing.T) {
	checkScale(t, vec{X: 3000, Y: 4000}, 500, vec{X: 1500, Y: 2000}, true)
	checkScale(t, vec{X: 1, Y: -1}, 999, vec{}, true)
	checkScale(t, vec{X: 1, Y: -1}, 1999, vec{X: 1, Y: -1}, true)
	checkScale(t, vec{X: -3, Y: 3}, -700, vec{X: 2, Y: -2}, true)
	checkScale(t, vec{X: maxCoordinate, Y: -maxCoordinate}, 999, vec{X: 999000, Y: -999000}, true)
	checkScale(t, vec{X: maxCoordinate}, one+1, vec{}, false)
	checkScale(t, vec{X: 5, Y: -maxCoordinate}, one+1, vec{}, false)
	checkScale(t, vec{X: 500000, Y: -500000}, 2*one, vec{X: maxCoordinate, Y: -maxCoordinate}, true)
	checkScale(t, vec{X: 500001, Y: 0}, 2*one, vec{}, false)
	// The exact quotients are beyond the range, but are rounded to its ends.
	checkScale(t, vec{X: 999001, Y: -999001}, 1001, vec{X: maxCoordinate, Y: -maxCoordinate}, true)
	// The product leaves the range of numbers, too.
	checkScale(t, vec{X: maxCoordinate, Y: 1}, fixMax, vec{}, false)
	checkScale(t, vec{X: 1, Y: maxCoordinate}, -fixMax, vec{}, false)
	checkScale(t, vec{}, fixMax, vec{}, true)
	checkScale(t, vec{}, -fixMax, vec{}, true)
	// The end of the range of factors is not that of coordinates.
	checkScale(t, vec{Y: 1}, maxCoordinate+1, vec{Y: one}, true)
	checkScale(t, vec{}, fixMax+1, vec{}, false)
	checkScale(t, vec{}, -fixMax-1, vec{}, false)
}

func TestVecDotRows(t *testing.T) {
	checkDot(t, vec{X: 3000, Y: 4000}, vec{X: 1000, Y: -1000}, -1000, true)
	checkDot(t, vec{}, vec{X: maxCoordinate, Y: maxCoordinate}, 0, true)
	// Each product is divided, not their sum.
	checkDot(t, vec{X: 1, Y: 1}, vec{X: 500, Y: 500}, 0, true)
	checkDot(t, vec{X: 1, Y: 1}, vec{X: 1999, Y: 1999}, 2, true)
	checkDot(t, vec{X: 1, Y: -1}, vec{X: 1500, Y: 700}, 1, true)
	checkDot(t, vec{X: -1, Y: -1}, vec{X: 1999, Y: 999}, -1, true)
	checkDot(t, vec{X: maxCoordinate, Y: maxCoordinate}, vec{X: maxCoordinate, Y: maxCoordinate}, fixMax, true)
	checkDot(t, vec{X: maxCoordinate, Y: maxCoordinate}, vec{X: -maxCoordinate, Y: -maxCoordinate}, -fixMax, true)
	checkDot(t, vec{X: maxCoordinate, Y: maxCoordinate}, vec{X: maxCoordinate, Y: -maxCoordinate}, 0, true)
}

func TestVecLengthRows(t *testing.T) {
	checkLength(t, vec{}, 0, true)
	checkLength(t, vec{X: 3000, Y: 4000}, 5000, true)
	checkLength(t, vec{X: -3000, Y: 4000}, 5000, true)
	checkLength(t, vec{X: 1}, 1, true)
	checkLength(t, vec{Y: -1}, 1, true)
	checkLength(t, vec{X: 1, Y: 1}, 1, true)
	// The sum of the squares is one less than a square.
	checkLength(t, vec{X: 2, Y: 2}, 2, true)
	checkLength(t, vec{X: 8, Y: -4}, 8, true)
	checkLength(t, vec{X: maxCoordinate}, maxCoordinate, true)
	checkLength(t, vec{Y: -maxCoordinate}, maxCoordinate, true)
	checkLength(t, vec{X: maxCoordinate, Y: 1414}, maxCoordinate, true)
	checkLength(t, vec{X: maxCoordinate, Y: 1415}, maxCoordinate+1, true)
	checkLength(t, vec{X: maxCoordinate, Y: maxCoordinate}, 1414213, true)
	checkLength(t, vec{X: -maxCoordinate, Y: -maxCoordinate}, 1414213, true)
}

func TestVecDirectionRows(t *testing.T) {
	rows := []vec{
		{X: 1000, Y: 0}, {X: 924, Y: 383}, {X: 707, Y: 707}, {X: 383, Y: 924},
		{X: 0, Y: 1000}, {X: -383, Y: 924}, {X: -707, Y: 707}, {X: -924, Y: 383},
		{X: -1000, Y: 0}, {X: -924, Y: -383}, {X: -707, Y: -707}, {X: -383, Y: -924},
		{X: 0, Y: -1000}, {X: 383, Y: -924}, {X: 707, Y: -707}, {X: 924, Y: -383},
	}
	if len(rows) != impl.Directions {
		t.Errorf("there are %d directions, want %d", impl.Directions, len(rows))
	}
	for d, want := range rows {
		checkDirection(t, d, want, true)
	}
}

func TestVecClampRows(t *testing.T) {
	v := vec{X: 3000, Y: -4000}
	checkClamp(t, v, 1000, vec{X: 600, Y: -800}, true)
	checkClamp(t, v, 5001, v, true)
	checkClamp(t, v, 5000, v, true)
	checkClamp(t, v, 4999, vec{X: 2999, Y: -3999}, true)
	checkClamp(t, v, 1, vec{}, true)
	checkClamp(t, v, 0, vec{}, true)
	checkClamp(t, v, maxCoordinate, v, true)
	checkClamp(t, vec{}, 0, vec{}, true)
	checkClamp(t, vec{}, maxCoordinate, vec{}, true)
	checkClamp(t, vec{X: -7}, 2, vec{X: -2}, true)
	// The length is rounded down ahead of the comparison and the division.
	checkClamp(t, vec{X: 1, Y: 1}, 1, vec{X: 1, Y: 1}, true)
	checkClamp(t, vec{X: 2, Y: 2}, 1, vec{X: 1, Y: 1}, true)
	checkClamp(t, vec{X: maxCoordinate, Y: 1414}, maxCoordinate, vec{X: maxCoordinate, Y: 1414}, true)
	checkClamp(t, vec{X: maxCoordinate, Y: 1415}, maxCoordinate, vec{X: 999999, Y: 1414}, true)
	checkClamp(t, vec{X: maxCoordinate}, maxCoordinate, vec{X: maxCoordinate}, true)
	checkClamp(t, vec{X: maxCoordinate, Y: -maxCoordinate}, maxCoordinate, vec{X: 707107, Y: -707107}, true)
	checkClamp(t, v, -1, vec{}, false)
	checkClamp(t, v, maxCoordinate+1, vec{}, false)
	checkClamp(t, vec{}, -1, vec{}, false)
	checkClamp(t, vec{}, maxCoordinate+1, vec{}, false)
}

func TestVecArgumentsOutOfRange(t *testing.T) {
	others := append(outsideVectors(), vec{}, vec{X: one}, vec{Y: -one},
		vec{X: maxCoordinate, Y: maxCoordinate}, vec{X: -maxCoordinate, Y: -maxCoordinate})
	for _, v := range outsideVectors() {
		for _, w := range others {
			checkAdd(t, v, w, vec{}, false)
			checkAdd(t, w, v, vec{}, false)
			checkDot(t, v, w, 0, false)
			checkDot(t, w, v, 0, false)
		}
		for _, k := range append(outsideNumbers(), 0, 1, -1, one, -one, fixMax, -fixMax) {
			checkScale(t, v, k, vec{}, false)
		}
		for _, most := range append(outsideNumbers(), -1, 0, 1, one, maxCoordinate, maxCoordinate+1) {
			checkClamp(t, v, most, vec{}, false)
		}
		checkLength(t, v, 0, false)
	}
}

func TestVecFactorsOutOfRange(t *testing.T) {
	for _, v := range vectors() {
		for _, k := range outsideNumbers() {
			checkScale(t, v, k, vec{}, false)
		}
	}
}

func TestVecLimitsOutOfRange(t *testing.T) {
	for _, v := range vectors() {
		for _, most := range append(outsideCoordinates(), -1, -one, -maxCoordinate) {
			checkClamp(t, v, most, vec{}, false)
		}
	}
}

func TestVecDirectionsOutOfRange(t *testing.T) {
	for _, d := range append(outsideCoordinates(), -1, -2, -4, -16, 16, 17, 20, 32, 1000, math.MinInt+16, math.MaxInt-15) {
		checkDirection(t, d, vec{}, false)
	}
}

func TestP17(t *testing.T) {
	eachVectorPair(func(a, b vec) {
		sum, inRange := vec{X: a.X + b.X, Y: a.Y + b.Y}, true
		if !coordinatesInRange(sum) {
			sum, inRange = vec{}, false
		}
		checkAdd(t, a, b, sum, inRange)
		checkAdd(t, b, a, sum, inRange)
	})
}

func TestP18(t *testing.T) {
	eachVectorPair(func(a, b vec) {
		if sum, ok := impl.VecAdd(a, b); ok {
			checkAdd(t, sum, negated(a), b, true)
			checkAdd(t, sum, negated(b), a, true)
		}
	})
}

func TestP19(t *testing.T) {
	for _, v := range vectors() {
		for _, k := range fixedNumbers() {
			x, xOk := impl.FixMul(v.X, k)
			y, yOk := impl.FixMul(v.Y, k)
			want, inRange := vec{X: x, Y: y}, xOk && yOk
			if !inRange || !coordinatesInRange(want) {
				want, inRange = vec{}, false
			}
			checkScale(t, v, k, want, inRange)
		}
	}
}

func TestP20(t *testing.T) {
	for _, v := range vectors() {
		checkScale(t, v, one, v, true)
		checkScale(t, v, -one, negated(v), true)
		checkScale(t, v, 0, vec{}, true)
	}
}

func TestP21(t *testing.T) {
	eachVectorPair(func(a, b vec) {
		dot := a.X*b.X/one + a.Y*b.Y/one
		checkDot(t, a, b, dot, true)
		checkDot(t, b, a, dot, true)
		checkDot(t, negated(a), b, -dot, true)
		checkDot(t, a, negated(b), -dot, true)
	})
}

func TestP22(t *testing.T) {
	checkDot(t, vec{}, vec{}, 0, true)
	for _, v := range vectors() {
		if dot, ok := impl.VecDot(v, v); dot < 0 || !ok {
			t.Errorf("VecDot(%v, %v) = %d, %v", v, v, dot, ok)
		}
	}
}

func TestP23(t *testing.T) {
	for _, v := range vectors() {
		length := lengthOf(t, v)
		squares := v.X*v.X + v.Y*v.Y
		if length < 0 || length*length > squares || (length+1)*(length+1) <= squares {
			t.Errorf("VecLength(%v) = %d", v, length)
		}
	}
}

func TestP24(t *testing.T) {
	for _, v := range vectors() {
		length := lengthOf(t, v)
		for _, w := range []vec{{X: v.Y, Y: v.X}, {X: -v.X, Y: v.Y}, {X: v.X, Y: -v.Y}, negated(v)} {
			checkLength(t, w, length, true)
		}
	}
}

func TestP25(t *testing.T) {
	eachVectorPair(func(a, b vec) {
		sum, ok := impl.VecAdd(a, b)
		if ok && lengthOf(t, sum) > lengthOf(t, a)+lengthOf(t, b)+2 {
			t.Errorf("VecLength of the sum of %v and %v is %d", a, b, lengthOf(t, sum))
		}
	})
}

func TestP26(t *testing.T) {
	for d := range impl.Directions {
		v := directionOf(t, d)
		if length := lengthOf(t, v); size(length-one) > 1 {
			t.Errorf("VecLength of direction %d is %d", d, length)
		}
		if w := directionOf(t, d+impl.Directions/2); w != negated(v) {
			t.Errorf("direction %d is %v, and the opposite one is %v", d, v, w)
		}
	}
}

func TestP27(t *testing.T) {
	for d := range impl.Directions {
		if v, w := directionOf(t, d), directionOf(t, d+4); w != turned(v) {
			t.Errorf("direction %d is %v, and four further it is %v", d, v, w)
		}
	}
}

func TestP28(t *testing.T) {
	for _, v := range vectors() {
		length := lengthOf(t, v)
		for _, most := range vectorLimits(v) {
			want := v
			if length > most {
				want = vec{X: v.X * most / length, Y: v.Y * most / length}
			}
			checkClamp(t, v, most, want, true)
			if w, _ := impl.VecClamp(v, most); lengthOf(t, w) > most {
				t.Errorf("VecLength of VecClamp(%v, %d) is %d", v, most, lengthOf(t, w))
			}
		}
	}
}

func TestP29(t *testing.T) {
	for _, v := range vectors() {
		for _, most := range vectorLimits(v) {
			w, _ := impl.VecClamp(v, most)
			if sign(v.X)*w.X < 0 || sign(v.Y)*w.Y < 0 || size(w.X) > size(v.X) || size(w.Y) > size(v.Y) {
				t.Errorf("VecClamp(%v, %d) = %v", v, most, w)
			}
		}
	}
}

func TestP30(t *testing.T) {
	for _, v := range vectors() {
		for _, most := range vectorLimits(v) {
			w, _ := impl.VecClamp(v, most)
			checkClamp(t, w, most, w, true)
		}
	}
}

func TestP31(t *testing.T) {
	for _, v := range vectors() {
		checkAdd(t, v, vec{}, v, true)
		checkAdd(t, vec{}, v, v, true)
	}
}

func TestP32(t *testing.T) {
	for _, v := range vectors() {
		checkDot(t, v, turned(v), 0, true)
	}
}

func TestP33(t *testing.T) {
	for _, v := range vectors() {
		length := lengthOf(t, v)
		if length < size(v.X) || length < size(v.Y) || length > size(v.X)+size(v.Y) {
			t.Errorf("VecLength(%v) = %d", v, length)
		}
	}
}

func TestP34(t *testing.T) {
	for d := range impl.Directions {
		for e := range d {
			if v, w := directionOf(t, d), directionOf(t, e); v == w {
				t.Errorf("directions %d and %d are both %v", d, e, v)
			}
		}
	}
}
