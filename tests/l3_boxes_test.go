package tests

import (
	"math"
	"math/rand"
	"slices"
	"testing"

	"loop.example/replayverifier/impl"
)

type box = impl.Box

// boxOf returns the box from (x, y) to (right, top).
func boxOf(x, y, right, top int) box {
	return box{Low: vec{X: x, Y: y}, High: vec{X: right, Y: top}}
}

func pointBox(v vec) box {
	return box{Low: v, High: v}
}

// boxes returns valid boxes: all pairs of spans that touch, that are one inside
// the other, that are one coordinate only or that reach an end of the range,
// and some that are drawn.
func boxes() []box {
	spans := [][2]int{
		{0, 0}, {0, 10}, {10, 10}, {10, 20}, {11, 20}, {3, 7}, {-5, 0},
		{-maxCoordinate, maxCoordinate}, {-maxCoordinate, -maxCoordinate},
		{maxCoordinate, maxCoordinate}, {-maxCoordinate, 0}, {10, maxCoordinate},
	}
	var list []box
	for _, x := range spans {
		for _, y := range spans {
			list = append(list, boxOf(x[0], y[0], x[1], y[1]))
		}
	}
	draw := rand.New(rand.NewSource(3))
	for size := 10; size <= maxCoordinate; size *= 10 {
		for range 5 {
			x, y := drawnSpan(draw, size), drawnSpan(draw, size)
			list = append(list, boxOf(x[0], y[0], x[1], y[1]))
		}
	}
	return list
}

// drawnSpan returns two numbers of at most the given size, in order.
func drawnSpan(draw *rand.Rand, size int) [2]int {
	a, b := draw.Intn(2*size+1)-size, draw.Intn(2*size+1)-size
	return [2]int{min(a, b), max(a, b)}
}

// invalidBoxes returns boxes whose corners are in the wrong order along one or
// both axes, or are out of range.
func invalidBoxes() []box {
	const most = maxCoordinate
	list := []box{
		boxOf(1, 0, 0, 0), boxOf(0, 1, 0, 0), boxOf(1, 1, 0, 0),
		boxOf(10, 0, 0, 20), boxOf(0, 20, 10, 0), boxOf(10, 20, 0, 0),
		boxOf(most, -most, -most, most), boxOf(-most, most, most, -most), boxOf(most, most, -most, -most),
		boxOf(most, 0, most-1, 0), boxOf(0, 1-most, 0, -most),
		boxOf(math.MinInt, math.MinInt, math.MaxInt, math.MaxInt),
		boxOf(math.MaxInt, math.MaxInt, math.MinInt, math.MinInt),
	}
	low, high := vec{X: -most, Y: -most}, vec{X: most, Y: most}
	for _, v := range outsideVectors() {
		list = append(list, box{Low: low, High: v}, box{Low: v, High: high}, box{Low: v}, box{High: v}, pointBox(v))
	}
	return list
}

// around returns the coordinates in range at both ends of a span, just inside
// and just beyond them, in the middle, and at both ends of the range.
func around(low, high int) []int {
	list := []int{
		low - 1, low, low + 1, low + (high-low)/2, high - 1, high, high + 1,
		high + 300, -maxCoordinate, maxCoordinate,
	}
	list = slices.DeleteFunc(list, func(n int) bool { return size(n) > maxCoordinate })
	slices.Sort(list)
	return slices.Compact(list)
}

// pointsAround returns points in range on the sides of a box, just inside and
// just beyond them, and far away.
func pointsAround(b box) []vec {
	var list []vec
	for _, x := range around(b.Low.X, b.High.X) {
		for _, y := range around(b.Low.Y, b.High.Y) {
			list = append(list, vec{X: x, Y: y})
		}
	}
	return list
}

func cornersOf(b box) []vec {
	return []vec{b.Low, b.High, {X: b.Low.X, Y: b.High.Y}, {X: b.High.X, Y: b.Low.Y}}
}

// eachBoxPoint calls check for all boxes and the points around each.
func eachBoxPoint(check func(b box, v vec)) {
	for _, b := range boxes() {
		for _, v := range pointsAround(b) {
			check(b, v)
		}
	}
}

// eachBoxPair calls check for all pairs of valid boxes.
func eachBoxPair(check func(a, b box)) {
	list := boxes()
	for _, a := range list {
		for _, b := range list {
			check(a, b)
		}
	}
}

// between reports whether both coordinates of v are between those of the
// corners of b.
func between(b box, v vec) bool {
	return b.Low.X <= v.X && v.X <= b.High.X && b.Low.Y <= v.Y && v.Y <= b.High.Y
}

func squaredDistance(v, w vec) int {
	return (v.X-w.X)*(v.X-w.X) + (v.Y-w.Y)*(v.Y-w.Y)
}

// radiiAround returns radii in ascending order: both ends of their range, some
// in between, and those around the root of a square, as far as they are in
// range.
func radiiAround(square int) []int {
	root := int(math.Sqrt(float64(square)))
	list := []int{0, 1, 2, 500, one, maxCoordinate - 1, maxCoordinate}
	for n := root - 1; n <= root+2; n++ {
		if 0 <= n && n <= maxCoordinate {
			list = append(list, n)
		}
	}
	slices.Sort(list)
	return slices.Compact(list)
}

func checkValid(t *testing.T, b box, want bool) {
	t.Helper()
	if got := impl.BoxValid(b); got != want {
		t.Errorf("BoxValid(%v) = %v", b, got)
	}
}

func checkHas(t *testing.T, b box, v vec, want bool) {
	t.Helper()
	if got := impl.BoxHas(b, v); got != want {
		t.Errorf("BoxHas(%v, %v) = %v", b, v, got)
	}
}

func checkMeet(t *testing.T, a, b, want box, wantOk bool) {
	t.Helper()
	if got, ok := impl.BoxMeet(a, b); got != want || ok != wantOk {
		t.Errorf("BoxMeet(%v, %v) = %v, %v, want %v, %v", a, b, got, ok, want, wantOk)
	}
}

func checkNearest(t *testing.T, b box, v vec, want vec, wantOk bool) {
	t.Helper()
	if got, ok := impl.BoxNearest(b, v); got != want || ok != wantOk {
		t.Errorf("BoxNearest(%v, %v) = %v, %v, want %v, %v", b, v, got, ok, want, wantOk)
	}
}

func checkTouches(t *testing.T, b box, v vec, radius int, want bool) {
	t.Helper()
	if got := impl.BoxTouches(b, v, radius); got != want {
		t.Errorf("BoxTouches(%v, %v, %d) = %v", b, v, radius, got)
	}
}

// nearestOf returns BoxNearest of arguments for which it must not fail.
func nearestOf(t *testing.T, b box, v vec) vec {
	t.Helper()
	nearest, ok := impl.BoxNearest(b, v)
	if !ok {
		t.Errorf("BoxNearest(%v, %v) fails", b, v)
	}
	return nearest
}

func TestBoxValid(t *testing.T) {
	for _, b := range boxes() {
		checkValid(t, b, true)
	}
	for _, b := range invalidBoxes() {
		checkValid(t, b, false)
	}
	checkValid(t, box{}, true)
	checkValid(t, boxOf(-maxCoordinate, -maxCoordinate, maxCoordinate, maxCoordinate), true)
	checkValid(t, boxOf(-maxCoordinate-1, 0, 0, 0), false)
	checkValid(t, boxOf(0, -maxCoordinate-1, 0, 0), false)
	checkValid(t, boxOf(0, 0, maxCoordinate+1, 0), false)
	checkValid(t, boxOf(0, 0, 0, maxCoordinate+1), false)
}

func TestBoxMeetRows(t *testing.T) {
	b := boxOf(0, 0, 10, 20)
	rows := []struct {
		other, want box
		ok          bool
	}{
		// They share a part, whose corners are of one box, of both, or of none.
		{boxOf(5, -5, 30, 8), boxOf(5, 0, 10, 8), true},
		{boxOf(-5, 5, 4, 25), boxOf(0, 5, 4, 20), true},
		{boxOf(-5, 8, 15, 12), boxOf(0, 8, 10, 12), true},
		{boxOf(4, -5, 6, 25), boxOf(4, 0, 6, 20), true},
		{boxOf(3, 4, 7, 8), boxOf(3, 4, 7, 8), true},
		{boxOf(0, 0, 10, 5), boxOf(0, 0, 10, 5), true},
		{boxOf(5, 5, 5, 5), boxOf(5, 5, 5, 5), true},
		{boxOf(5, -5, 5, 25), boxOf(5, 0, 5, 20), true},
		// They share one side only, or a part of it.
		{boxOf(10, 0, 30, 20), boxOf(10, 0, 10, 20), true},
		{boxOf(-30, 5, 0, 8), boxOf(0, 5, 0, 8), true},
		{boxOf(0, 20, 10, 50), boxOf(0, 20, 10, 20), true},
		{boxOf(5, -9, 30, 0), boxOf(5, 0, 10, 0), true},
		// They share one corner only.
		{boxOf(10, 20, 30, 40), boxOf(10, 20, 10, 20), true},
		{boxOf(-9, -9, 0, 0), boxOf(0, 0, 0, 0), true},
		{boxOf(10, -9, 30, 0), boxOf(10, 0, 10, 0), true},
		{boxOf(-9, 20, 0, 40), boxOf(0, 20, 0, 20), true},
		{boxOf(10, 20, 10, 20), boxOf(10, 20, 10, 20), true},
		// They miss each other by one.
		{boxOf(11, 0, 30, 20), box{}, false},
		{boxOf(-30, 0, -1, 20), box{}, false},
		{boxOf(0, 21, 10, 50), box{}, false},
		{boxOf(0, -50, 10, -1), box{}, false},
		{boxOf(11, 21, 30, 50), box{}, false},
		{boxOf(11, 20, 30, 40), box{}, false},
		{boxOf(10, 21, 30, 40), box{}, false},
		{boxOf(11, 5, 11, 5), box{}, false},
		{boxOf(-maxCoordinate, -maxCoordinate, maxCoordinate, maxCoordinate), b, true},
		{boxOf(maxCoordinate, maxCoordinate, maxCoordinate, maxCoordinate), box{}, false},
	}
	for _, r := range rows {
		checkMeet(t, b, r.other, r.want, r.ok)
		checkMeet(t, r.other, b, r.want, r.ok)
	}
}

func TestBoxNearestRows(t *testing.T) {
	b := boxOf(0, 0, 10, 20)
	rows := []struct{ v, want vec }{
		{vec{X: 13, Y: 24}, vec{X: 10, Y: 20}},
		{vec{X: -1, Y: 24}, vec{X: 0, Y: 20}},
		{vec{X: -1, Y: -1}, vec{}},
		{vec{X: 11, Y: -1}, vec{X: 10, Y: 0}},
		{vec{X: 13, Y: 7}, vec{X: 10, Y: 7}},
		{vec{X: -3, Y: 7}, vec{X: 0, Y: 7}},
		{vec{X: 4, Y: 21}, vec{X: 4, Y: 20}},
		{vec{X: 4, Y: -1}, vec{X: 4, Y: 0}},
		{vec{X: 4, Y: 7}, vec{X: 4, Y: 7}},
		{vec{X: 10, Y: 7}, vec{X: 10, Y: 7}},
		{vec{X: maxCoordinate, Y: -maxCoordinate}, vec{X: 10, Y: 0}},
		{vec{X: -maxCoordinate, Y: maxCoordinate}, vec{X: 0, Y: 20}},
	}
	for _, r := range rows {
		checkNearest(t, b, r.v, r.want, true)
	}
	end := vec{X: maxCoordinate, Y: maxCoordinate}
	checkNearest(t, pointBox(end), negated(end), end, true)
	checkNearest(t, pointBox(negated(end)), end, negated(end), true)
	checkNearest(t, box{Low: negated(end), High: end}, end, end, true)
}

func TestBoxTouchesRows(t *testing.T) {
	b := boxOf(0, 0, 10, 20)
	rows := []struct {
		v        vec
		distance int
	}{
		{vec{X: 13, Y: 24}, 5},
		{vec{X: -3, Y: -4}, 5},
		{vec{X: 14, Y: -3}, 5},
		{vec{X: -5, Y: 32}, 13},
		{vec{X: 17, Y: 7}, 7},
		{vec{X: -1, Y: 20}, 1},
		{vec{X: 5, Y: 520}, 500},
		{vec{X: 0, Y: -500}, 500},
		{vec{X: 10, Y: maxCoordinate}, maxCoordinate - 20},
		{vec{X: -maxCoordinate, Y: 3}, maxCoordinate},
	}
	for _, r := range rows {
		checkTouches(t, b, r.v, r.distance, true)
		checkTouches(t, b, r.v, r.distance-1, false)
	}
	// The distance is between two radii.
	checkTouches(t, b, vec{X: 11, Y: 21}, 1, false)
	checkTouches(t, b, vec{X: 11, Y: 21}, 2, true)
	checkTouches(t, b, vec{X: 510, Y: 21}, 500, false)
	checkTouches(t, b, vec{X: 1 - maxCoordinate, Y: -1414}, maxCoordinate, true)
	checkTouches(t, b, vec{X: 1 - maxCoordinate, Y: -1415}, maxCoordinate, false)
	checkTouches(t, b, vec{X: 2 - maxCoordinate, Y: -1999}, maxCoordinate, true)
	checkTouches(t, b, vec{X: 2 - maxCoordinate, Y: -2000}, maxCoordinate, false)
	// The distance is beyond all radii.
	end := vec{X: maxCoordinate, Y: maxCoordinate}
	checkTouches(t, pointBox(end), negated(end), maxCoordinate, false)
	checkTouches(t, pointBox(end), vec{X: -1, Y: maxCoordinate}, maxCoordinate, false)
	checkTouches(t, pointBox(end), vec{X: 0, Y: maxCoordinate}, maxCoordinate, true)
	checkTouches(t, pointBox(end), vec{X: 0, Y: maxCoordinate}, maxCoordinate-1, false)
	checkTouches(t, pointBox(end), end, 0, true)
}

func TestBoxFunctionsOfInvalidBoxes(t *testing.T) {
	all := boxOf(-maxCoordinate, -maxCoordinate, maxCoordinate, maxCoordinate)
	for _, b := range invalidBoxes() {
		for _, other := range []box{all, {}, boxOf(0, 0, 10, 20), b} {
			checkMeet(t, b, other, box{}, false)
			checkMeet(t, other, b, box{}, false)
		}
		for _, v := range []vec{{}, {X: 5, Y: 5}, {X: maxCoordinate, Y: -maxCoordinate}, b.Low, b.High, {X: b.Low.X, Y: b.High.Y}} {
			checkHas(t, b, v, false)
			checkNearest(t, b, v, vec{}, false)
			for _, radius := range []int{0, 500, maxCoordinate, -1, math.MinInt, math.MaxInt} {
				checkTouches(t, b, v, radius, false)
			}
		}
	}
}

func TestBoxFunctionsOfPointsOutOfRange(t *testing.T) {
	for _, b := range boxes() {
		for _, v := range outsideVectors() {
			checkHas(t, b, v, false)
			checkNearest(t, b, v, vec{}, false)
			checkTouches(t, b, v, 0, false)
			checkTouches(t, b, v, maxCoordinate, false)
		}
	}
}

func TestBoxTouchesOfRadiiOutOfRange(t *testing.T) {
	radii := append(outsideCoordinates(), -1, -2, -500, -maxCoordinate)
	for _, b := range boxes() {
		for _, radius := range radii {
			checkTouches(t, b, b.Low, radius, false)
			checkTouches(t, b, vec{X: b.High.X, Y: 0}, radius, false)
		}
	}
}

func TestP35(t *testing.T) {
	for _, b := range boxes() {
		for _, v := range cornersOf(b) {
			checkHas(t, b, v, true)
		}
		// Some of these points are not in range.
		for _, n := range []int{1, 2, maxCoordinate, 2*maxCoordinate + 1} {
			for _, v := range cornersOf(b) {
				checkHas(t, b, vec{X: b.Low.X - n, Y: v.Y}, false)
				checkHas(t, b, vec{X: b.High.X + n, Y: v.Y}, false)
				checkHas(t, b, vec{X: v.X, Y: b.Low.Y - n}, false)
				checkHas(t, b, vec{X: v.X, Y: b.High.Y + n}, false)
			}
		}
	}
}

func TestP36(t *testing.T) {
	eachBoxPoint(func(b box, v vec) {
		checkHas(t, b, v, between(b, v))
	})
}

func TestP37(t *testing.T) {
	eachBoxPair(func(a, b box) {
		common, ok := impl.BoxMeet(a, b)
		checkMeet(t, b, a, common, ok)
		if !ok {
			return
		}
		checkValid(t, common, true)
		for _, v := range cornersOf(common) {
			checkHas(t, a, v, true)
			checkHas(t, b, v, true)
		}
	})
}

func TestP38(t *testing.T) {
	eachBoxPair(func(a, b box) {
		common, ok := impl.BoxMeet(a, b)
		if !ok && common != (box{}) {
			t.Errorf("BoxMeet(%v, %v) fails with %v", a, b, common)
		}
		// Boxes that cross have common points on the sides of both only.
		points := append(cornersOf(a), cornersOf(b)...)
		for _, v := range cornersOf(a) {
			for _, w := range cornersOf(b) {
				points = append(points, vec{X: v.X, Y: w.Y}, vec{X: w.X, Y: v.Y})
				points = append(points, vec{X: (v.X + w.X) / 2, Y: (v.Y + w.Y) / 2})
			}
		}
		for _, v := range points {
			if got, want := ok && impl.BoxHas(common, v), between(a, v) && between(b, v); got != want {
				t.Errorf("%v is in BoxMeet(%v, %v): %v, want %v", v, a, b, got, want)
			}
		}
	})
}

func TestP39(t *testing.T) {
	eachBoxPair(func(a, b box) {
		if _, ok := impl.BoxMeet(a, b); ok {
			return
		}
		for _, v := range cornersOf(a) {
			checkHas(t, b, v, false)
		}
		for _, v := range cornersOf(b) {
			checkHas(t, a, v, false)
		}
	})
}

func TestP40(t *testing.T) {
	for _, b := range boxes() {
		checkMeet(t, b, b, b, true)
	}
}

func TestP41(t *testing.T) {
	eachBoxPoint(func(b box, v vec) {
		nearest := nearestOf(t, b, v)
		checkHas(t, b, nearest, true)
		if !between(b, nearest) || between(b, v) && nearest != v {
			t.Errorf("BoxNearest(%v, %v) = %v", b, v, nearest)
		}
		for _, corner := range cornersOf(b) {
			if squaredDistance(v, corner) < squaredDistance(v, nearest) {
				t.Errorf("BoxNearest(%v, %v) = %v, but the corner %v is nearer", b, v, nearest, corner)
			}
		}
	})
}

func TestP42(t *testing.T) {
	draw := rand.New(rand.NewSource(42))
	eachBoxPoint(func(b box, v vec) {
		nearest := nearestOf(t, b, v)
		for range 10 {
			drawn := vec{
				X: b.Low.X + draw.Intn(b.High.X-b.Low.X+1),
				Y: b.Low.Y + draw.Intn(b.High.Y-b.Low.Y+1),
			}
			if squaredDistance(v, drawn) < squaredDistance(v, nearest) {
				t.Errorf("BoxNearest(%v, %v) = %v, but %v is nearer", b, v, nearest, drawn)
			}
		}
		// A step from the nearest point that stays in the box leads away from v.
		for _, step := range []vec{{X: 1}, {X: -1}, {Y: 1}, {Y: -1}} {
			next := vec{X: nearest.X + step.X, Y: nearest.Y + step.Y}
			if between(b, next) && squaredDistance(v, next) < squaredDistance(v, nearest) {
				t.Errorf("BoxNearest(%v, %v) = %v, but %v is nearer", b, v, nearest, next)
			}
		}
	})
}

func TestP43(t *testing.T) {
	eachBoxPoint(func(b box, v vec) {
		square := squaredDistance(v, nearestOf(t, b, v))
		for _, radius := range radiiAround(square) {
			checkTouches(t, b, v, radius, square <= radius*radius)
		}
	})
}

func TestP44(t *testing.T) {
	eachBoxPoint(func(b box, v vec) {
		checkTouches(t, b, v, 0, impl.BoxHas(b, v))
		touched := false
		for _, radius := range radiiAround(squaredDistance(v, nearestOf(t, b, v))) {
			touches := impl.BoxTouches(b, v, radius)
			if touched && !touches {
				t.Errorf("BoxTouches(%v, %v, %d) fails, but holds for a smaller radius", b, v, radius)
			}
			touched = touches
		}
	})
}

func TestP45(t *testing.T) {
	for _, v := range vectors() {
		b := pointBox(v)
		checkValid(t, b, true)
		for _, w := range append(pointsAround(b), vec{}, turned(v), negated(v)) {
			checkHas(t, b, w, w == v)
		}
	}
	for _, v := range outsideVectors() {
		checkValid(t, pointBox(v), false)
		checkHas(t, pointBox(v), v, false)
	}
}

func TestP46(t *testing.T) {
	eachBoxPoint(func(b box, v vec) {
		nearest := nearestOf(t, b, v)
		checkNearest(t, b, nearest, nearest, true)
	})
}

func TestP47(t *testing.T) {
	eachBoxPoint(func(b box, v vec) {
		if !impl.BoxHas(b, v) {
			return
		}
		for _, radius := range radiiAround(0) {
			checkTouches(t, b, v, radius, true)
		}
	})
}
