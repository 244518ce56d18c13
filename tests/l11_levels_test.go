package tests

import (
	"math"
	"math/rand"
	"slices"
	"testing"

	"loop.example/replayverifier/impl"
)

type level = impl.Level

const (
	maxLevel  = impl.MaxLevel
	maxTicks  = impl.MaxTicks
	maxWalls  = impl.MaxWalls
	maxGates  = impl.MaxGates
	carRadius = impl.Radius
	banBrake  = impl.BanBrake
	banPause  = impl.BanPause
)

// bareLevel returns a level with neither walls nor gates.
func bareLevel() level {
	return level{Id: 1, Ticks: 20}
}

// roadLevel returns a level with one wall and one gate.
func roadLevel() level {
	return level{
		Id: 1, Ticks: 20,
		Walls:  []box{boxOf(-2000, 2000, 9000, 3000)},
		Gates:  []box{boxOf(1000, -1000, 2500, 1000)},
		Finish: boxOf(5000, -1000, 9000, 1000),
		Bans:   banPause,
	}
}

// fullLevel returns a level with as many walls and gates as there may be, of
// which one wall on each side of the start is as close to it as possible.
func fullLevel() level {
	return level{
		Id: maxLevel, Ticks: maxTicks, Start: vec{X: 10000, Y: -20000},
		Walls: []box{
			boxOf(10501, -20600, 11000, -19400), boxOf(9000, -20600, 9499, -19400),
			boxOf(9000, -19499, 11000, -19000), boxOf(9000, -21000, 11000, -20501),
		},
		Gates:  []box{boxOf(0, 0, 0, 0), boxOf(9000, -21000, 11000, -19000), boxOf(-5, -5, 5, 5)},
		Finish: boxOf(10000, -20000, 10000, -20000),
		Bans:   banBrake + banPause,
	}
}

func withNumber(l level, number int) level {
	l.Id = number
	return l
}

func withTicks(l level, ticks int) level {
	l.Ticks = ticks
	return l
}

func withStart(l level, start vec) level {
	l.Start = start
	return l
}

func withWalls(l level, walls ...box) level {
	l.Walls = walls
	return l
}

func withGates(l level, gates ...box) level {
	l.Gates = gates
	return l
}

func withFinish(l level, finish box) level {
	l.Finish = finish
	return l
}

func withBans(l level, bans int) level {
	l.Bans = bans
	return l
}

// without returns the boxes but the one at an index.
func without(list []box, index int) []box {
	return slices.Delete(slices.Clone(list), index, index+1)
}

// baseLevels returns one level of each kind, which other levels are made from.
func baseLevels() []level {
	return []level{bareLevel(), roadLevel(), fullLevel()}
}

// levels returns valid levels: those at the limits of all that a level has, and
// some that are drawn.
func levels() []level {
	all := boxOf(-maxCoordinate, -maxCoordinate, maxCoordinate, maxCoordinate)
	list := []level{{Ticks: 1}, {Ticks: 1, Walls: []box{}, Gates: []box{}}}
	for _, l := range baseLevels() {
		list = append(list, l, withNumber(l, 0), withNumber(l, maxLevel-1), withNumber(l, maxLevel))
		list = append(list, withTicks(l, 1), withTicks(l, 2), withTicks(l, maxTicks-1), withTicks(l, maxTicks))
		for bans := range 4 {
			list = append(list, withBans(l, bans))
		}
		list = append(list, withGates(l), withGates(l, all), withGates(l, all, all, all), withFinish(l, all))
		list = append(list, withWalls(l), withWalls(l, slices.Repeat([]box{pointBox(vec{})}, len(l.Walls))...))
	}
	// Gates and the finish may be inside of a wall.
	wall := roadLevel().Walls[0]
	list = append(list, withFinish(withGates(roadLevel(), wall, pointBox(wall.High)), wall))
	list = slices.DeleteFunc(list, func(l level) bool { return !freeByDefinition(l.Walls, l.Start) })
	return slices.Concat(list, levelsAtTheEnds(), drawnLevels(60))
}

// levelsAtTheEnds returns valid levels that start at an end of the range, with
// points as walls, gates and finish.
func levelsAtTheEnds() []level {
	var list []level
	ends := []int{-maxCoordinate, 0, maxCoordinate}
	for _, x := range ends {
		for _, y := range ends {
			start := vec{X: x, Y: y}
			// Towards the middle, so that it is in range.
			side := vec{X: x - sign(2*x+1)*(carRadius+1), Y: y}
			corner := vec{X: x - sign(2*x+1)*300, Y: y - sign(2*y+1)*401}
			l := withStart(bareLevel(), start)
			list = append(list, l, withWalls(l, pointBox(side)), withWalls(l, pointBox(side), pointBox(corner)))
			list = append(list, withGates(withFinish(l, pointBox(corner)), pointBox(start), pointBox(side)))
		}
	}
	return list
}

// drawnLevels returns valid levels with all kinds of numbers of walls and gates.
func drawnLevels(many int) []level {
	draw := rand.New(rand.NewSource(11))
	drawnBox := func(size int) box {
		x, y := drawnSpan(draw, size), drawnSpan(draw, size)
		return boxOf(x[0], y[0], x[1], y[1])
	}
	var list []level
	for len(list) < many {
		size := []int{1000, 5000, 100000, maxCoordinate}[draw.Intn(4)]
		l := level{
			Id: draw.Intn(maxLevel + 1), Ticks: 1 + draw.Intn(maxTicks), Bans: draw.Intn(4),
			Start:  vec{X: draw.Intn(2*size+1) - size, Y: draw.Intn(2*size+1) - size},
			Finish: drawnBox(size),
		}
		for range draw.Intn(maxWalls + 1) {
			l.Walls = append(l.Walls, drawnBox(size))
		}
		for range draw.Intn(maxGates + 1) {
			l.Gates = append(l.Gates, drawnBox(size))
		}
		if freeByDefinition(l.Walls, l.Start) {
			list = append(list, l)
		}
	}
	return list
}

// outsideOf returns numbers that are not in the range low to high, among them
// some whose lower bits are.
func outsideOf(low, high int) []int {
	return []int{
		low - 1, low - 2, -high - 1, high + 1, high + 2, low - 256, 256 + high, 1<<32 + low, 1<<32 + high, -1<<32 + high,
		fixMax, -fixMax, math.MaxInt32, math.MinInt32, math.MaxInt - 1, math.MaxInt, math.MinInt + 1, math.MinInt,
	}
}

// invalidLevels returns levels that are valid but for one thing.
func invalidLevels() []level {
	var list []level
	for _, l := range baseLevels() {
		for _, n := range outsideOf(0, maxLevel) {
			list = append(list, withNumber(l, n))
		}
		for _, n := range outsideOf(1, maxTicks) {
			list = append(list, withTicks(l, n))
		}
		for _, n := range outsideOf(0, 3) {
			list = append(list, withBans(l, n))
		}
		for _, v := range outsideVectors() {
			list = append(list, withStart(l, v))
		}
		for _, b := range invalidBoxes() {
			list = append(list, withFinish(l, b), withWalls(l, b), withGates(l, b))
		}
		list = append(list, levelsWithTooMany(l)...)
		list = append(list, levelsWithOneInvalidBox(l)...)
		list = append(list, levelsWithoutFreeStart(l)...)
	}
	return list
}

// levelsWithTooMany returns l with one wall or gate more than there may be, and
// with a great many.
func levelsWithTooMany(l level) []level {
	far := pointBox(vec{X: 500000, Y: 500000})
	var list []level
	for _, many := range []int{1, 2, 252, 70000} {
		list = append(list, withWalls(l, slices.Repeat([]box{far}, maxWalls+many)...))
		list = append(list, withGates(l, slices.Repeat([]box{far}, maxGates+many)...))
	}
	return list
}

// levelsWithOneInvalidBox returns l with as many walls and gates as there may
// be, of which one is invalid.
func levelsWithOneInvalidBox(l level) []level {
	far := pointBox(vec{X: 500000, Y: 500000})
	var list []level
	for _, b := range []box{boxOf(1, 0, 0, 0), boxOf(600001, 0, 600000, 0), boxOf(0, 0, 0, maxCoordinate+1)} {
		for index := range maxWalls {
			walls := slices.Repeat([]box{far}, maxWalls)
			walls[index] = b
			list = append(list, withWalls(l, walls...))
		}
		for index := range maxGates {
			gates := slices.Repeat([]box{far}, maxGates)
			gates[index] = b
			list = append(list, withGates(l, gates...))
		}
	}
	return list
}

// levelsWithoutFreeStart returns l with a wall that touches the car at the
// start: as the only wall, as the first one and as the last one.
func levelsWithoutFreeStart(l level) []level {
	far := pointBox(vec{X: 500000, Y: 500000})
	var list []level
	for _, step := range touchingSteps() {
		near := pointBox(vec{X: l.Start.X + step.X, Y: l.Start.Y + step.Y})
		list = append(list, withWalls(l, near), withWalls(l, near, far), withWalls(l, far, far, far, near))
	}
	return append(list, withWalls(l, boxOf(-maxCoordinate, -maxCoordinate, maxCoordinate, maxCoordinate)))
}

// inAllQuarters returns the steps, turned to all sides and reflected.
func inAllQuarters(steps []vec) []vec {
	var list []vec
	for _, v := range steps {
		for range 4 {
			v = turned(v)
			list = append(list, v, vec{X: v.Y, Y: v.X})
		}
	}
	return list
}

// touchingSteps returns steps of at most Radius: exactly that, or just less.
func touchingSteps() []vec {
	return inAllQuarters([]vec{
		{}, {X: 1}, {X: 499}, {X: 500}, {X: 499, Y: 31},
		{X: 300, Y: 400}, {X: 299, Y: 400}, {X: 300, Y: 399}, {X: 140, Y: 480}, {X: 353, Y: 353}, {X: 353, Y: 354},
	})
}

// freeSteps returns steps of just more than Radius; the lengths of some of them
// are Radius if they are rounded down.
func freeSteps() []vec {
	return inAllQuarters([]vec{
		{X: 501}, {X: 500, Y: 1}, {X: 499, Y: 32}, {X: 501, Y: 501},
		{X: 300, Y: 401}, {X: 301, Y: 400}, {X: 140, Y: 481}, {X: 354, Y: 354}, {X: 353, Y: 355},
	})
}

// freeByDefinition reports whether v, which is in range, is more than Radius
// away from all walls.
func freeByDefinition(walls []box, v vec) bool {
	for _, b := range walls {
		x := max(b.Low.X-v.X, 0, v.X-b.High.X)
		y := max(b.Low.Y-v.Y, 0, v.Y-b.High.Y)
		if x*x+y*y <= 500*500 {
			return false
		}
	}
	return true
}

// levelHashByDefinition returns the hash of a valid level, in integers without
// a limit.
func levelHashByDefinition(l level) int {
	numbers := []int{l.Id, l.Ticks, l.Start.X, l.Start.Y, len(l.Walls), len(l.Gates), l.Bans}
	for _, list := range [][]box{l.Walls, l.Gates, {l.Finish}} {
		for _, b := range list {
			numbers = append(numbers, b.Low.X, b.Low.Y, b.High.X, b.High.Y)
		}
	}
	return hashByDefinition(numbers...)
}

// levelPoints returns points in range: the start, those on the sides of each
// wall and just beyond them, those about Radius away from its sides and
// corners, and both ends of the range.
func levelPoints(l level) []vec {
	const most = maxCoordinate
	list := []vec{l.Start, {}, {X: most, Y: most}, {X: -most, Y: -most}, {X: most, Y: -most}}
	steps := append(touchingSteps(), freeSteps()...)
	for _, b := range l.Walls {
		middle := vec{X: (b.Low.X + b.High.X) / 2, Y: (b.Low.Y + b.High.Y) / 2}
		list = append(list, pointsAround(b)...)
		for _, from := range append(cornersOf(b), vec{X: b.Low.X, Y: middle.Y}, vec{X: b.High.X, Y: middle.Y}, vec{X: middle.X, Y: b.Low.Y}, vec{X: middle.X, Y: b.High.Y}) {
			for _, step := range steps {
				list = append(list, vec{X: from.X + step.X, Y: from.Y + step.Y})
			}
		}
	}
	return slices.DeleteFunc(list, func(v vec) bool { return !coordinatesInRange(v) })
}

// shownLevel shortens the walls and the gates of a level for a message.
func shownLevel(l level) level {
	l.Walls = l.Walls[:min(len(l.Walls), maxWalls+1)]
	l.Gates = l.Gates[:min(len(l.Gates), maxGates+1)]
	return l
}

func checkLevel(t *testing.T, l level, want bool) {
	t.Helper()
	if got := impl.LevelValid(l); got != want {
		t.Errorf("LevelValid(%v) = %v", shownLevel(l), got)
	}
}

func checkFree(t *testing.T, l level, v vec, want bool) {
	t.Helper()
	if got := impl.LevelFree(l, v); got != want {
		t.Errorf("LevelFree(%v, %v) = %v", shownLevel(l), v, got)
	}
}

func checkBans(t *testing.T, l level, ban int, want bool) {
	t.Helper()
	if got := impl.LevelBans(l, ban); got != want {
		t.Errorf("LevelBans(%v, %d) = %v", shownLevel(l), ban, got)
	}
}

func checkLevelHash(t *testing.T, l level, want int) {
	t.Helper()
	if got := impl.LevelHash(l); got != want {
		t.Errorf("LevelHash(%v) = %d, want %d", shownLevel(l), got, want)
	}
}

// checkOtherHash checks that both levels are valid and have different hashes.
func checkOtherHash(t *testing.T, l, other level) {
	t.Helper()
	a, b := impl.LevelHash(l), impl.LevelHash(other)
	if a < 0 || b < 0 || a == b {
		t.Errorf("LevelHash is %d of %v and %d of %v", a, l, b, other)
	}
}

func TestConstantsOfChapter11(t *testing.T) {
	if maxLevel != 99 || maxTicks != 60 || maxWalls != 4 || maxGates != 3 || carRadius != 500 {
		t.Errorf("MaxLevel is %d, MaxTicks is %d, MaxWalls is %d, MaxGates is %d, Radius is %d", maxLevel, maxTicks, maxWalls, maxGates, carRadius)
	}
	if banBrake != 1 || banPause != 2 {
		t.Errorf("BanBrake is %d, BanPause is %d", banBrake, banPause)
	}
}

func TestLevelValid(t *testing.T) {
	for _, l := range levels() {
		checkLevel(t, l, true)
	}
	for _, l := range invalidLevels() {
		checkLevel(t, l, false)
	}
	// A level has at least one tick.
	checkLevel(t, level{}, false)
	checkLevel(t, level{Ticks: 1}, true)
}

func TestLevelValidNumbers(t *testing.T) {
	for _, l := range baseLevels() {
		for n := -300; n <= 300; n++ {
			checkLevel(t, withNumber(l, n), 0 <= n && n <= 99)
			checkLevel(t, withTicks(l, n), 1 <= n && n <= 60)
			checkLevel(t, withBans(l, n), 0 <= n && n <= 3)
		}
	}
}

func TestLevelValidCounts(t *testing.T) {
	far := pointBox(vec{X: 500000, Y: 500000})
	for _, l := range baseLevels() {
		for many := range 12 {
			list := slices.Repeat([]box{far}, many)
			checkLevel(t, withWalls(l, list...), many <= 4)
			checkLevel(t, withGates(l, list...), many <= 3)
		}
	}
}

func TestLevelValidBoxes(t *testing.T) {
	for _, b := range boxes() {
		checkLevel(t, withGates(bareLevel(), b), true)
		checkLevel(t, withFinish(bareLevel(), b), true)
		checkLevel(t, withWalls(bareLevel(), b), freeByDefinition([]box{b}, vec{}))
	}
	for _, v := range vectors() {
		checkLevel(t, withStart(bareLevel(), v), true)
	}
}

// The wall is close to the start: a point, or a box that reaches away from it.
func TestWallsCloseToTheStart(t *testing.T) {
	for _, start := range []vec{{}, {X: 7000, Y: -3000}, {X: -maxCoordinate + 600, Y: maxCoordinate - 600}} {
		l := withStart(bareLevel(), start)
		for _, step := range touchingSteps() {
			checkLevel(t, withWalls(l, wallBeyond(start, step, 0)), false)
			checkLevel(t, withWalls(l, wallBeyond(start, step, 90)), false)
		}
		for _, step := range freeSteps() {
			checkLevel(t, withWalls(l, wallBeyond(start, step, 0)), true)
			checkLevel(t, withWalls(l, wallBeyond(start, step, 90)), true)
		}
	}
}

// wallBeyond returns a wall that has the point a step away from the start as its
// nearest one, and goes on by the given width along the step.
func wallBeyond(start, step vec, width int) box {
	x, y := start.X+step.X, start.Y+step.Y
	right, top := x+sign(step.X)*width, y+sign(step.Y)*width
	return boxOf(min(x, right), min(y, top), max(x, right), max(y, top))
}

func TestWallsCloseToTheStartRows(t *testing.T) {
	rows := []struct {
		wall box
		want bool
	}{
		// From each side.
		{boxOf(499, -1000, 2000, 1000), false},
		{boxOf(500, -1000, 2000, 1000), false},
		{boxOf(501, -1000, 2000, 1000), true},
		{boxOf(-2000, -1000, -499, 1000), false},
		{boxOf(-2000, -1000, -500, 1000), false},
		{boxOf(-2000, -1000, -501, 1000), true},
		{boxOf(-1000, 499, 1000, 2000), false},
		{boxOf(-1000, 500, 1000, 2000), false},
		{boxOf(-1000, 501, 1000, 2000), true},
		{boxOf(-1000, -2000, 1000, -499), false},
		{boxOf(-1000, -2000, 1000, -500), false},
		{boxOf(-1000, -2000, 1000, -501), true},
		// From a corner.
		{boxOf(300, 399, 2000, 2000), false},
		{boxOf(300, 400, 2000, 2000), false},
		{boxOf(300, 401, 2000, 2000), true},
		{boxOf(-2000, 400, -300, 2000), false},
		{boxOf(-2000, 400, -301, 2000), true},
		{boxOf(-2000, -2000, -300, -400), false},
		{boxOf(-2000, -2000, -300, -401), true},
		{boxOf(400, -2000, 2000, -300), false},
		{boxOf(401, -2000, 2000, -300), true},
		{boxOf(353, 354, 2000, 2000), false},
		{boxOf(354, 354, 2000, 2000), true},
		// The end of a side.
		{boxOf(500, 0, 2000, 1000), false},
		{boxOf(500, 1, 2000, 1000), true},
		{boxOf(0, 500, 0, 1000), false},
		{boxOf(1, 500, 1, 1000), true},
		// The start is inside of the wall, or on its side.
		{boxOf(-1000, -1000, 1000, 1000), false},
		{boxOf(0, 0, 1000, 1000), false},
		{boxOf(0, 0, 0, 0), false},
	}
	for _, r := range rows {
		checkLevel(t, withWalls(bareLevel(), r.wall), r.want)
		checkFree(t, withWalls(bareLevel(), r.wall), vec{}, r.want)
	}
}

func TestLevelFreeRows(t *testing.T) {
	l := withWalls(bareLevel(), boxOf(1000, -1000, 2000, 1000), boxOf(1000, 3000, 2000, 4000))
	rows := []struct {
		v    vec
		want bool
	}{
		{vec{X: 499}, true}, {vec{X: 500}, false}, {vec{X: 501}, false},
		{vec{X: 2501}, true}, {vec{X: 2500}, false}, {vec{X: 2499}, false},
		{vec{X: 1500}, false}, {vec{X: 1500, Y: 2000}, true},
		{vec{X: 1500, Y: 1500}, false}, {vec{X: 1500, Y: 1501}, true},
		{vec{X: 1500, Y: 2499}, true}, {vec{X: 1500, Y: 2500}, false},
		{vec{X: 700, Y: 1400}, false}, {vec{X: 700, Y: 1401}, true}, {vec{X: 699, Y: 1400}, true},
		{vec{X: 2300, Y: 4400}, false}, {vec{X: 2301, Y: 4400}, true},
		{vec{X: maxCoordinate, Y: maxCoordinate}, true},
		{vec{X: maxCoordinate + 1}, false}, {vec{Y: -maxCoordinate - 1}, false},
	}
	for _, r := range rows {
		checkFree(t, l, r.v, r.want)
	}
}

func TestLevelFreeOfPointsOutOfRange(t *testing.T) {
	for _, l := range levels() {
		for _, v := range outsideVectors() {
			checkFree(t, l, v, false)
		}
	}
}

func TestLevelHashRows(t *testing.T) {
	const most = maxCoordinate
	checkLevelHash(t, level{Ticks: 1}, 739291)
	checkLevelHash(t, roadLevel(), 275117)
	b := boxOf(1000, -1000, 2000, 1000)
	checkLevelHash(t, withBans(withWalls(bareLevel(), b), 2), 115515)
	checkLevelHash(t, withBans(withGates(bareLevel(), b), 2), 683878)
	checkLevelHash(t, level{
		Id: 99, Ticks: 60, Start: vec{X: -most, Y: most},
		Walls:  []box{boxOf(-most, -most, most, -most), boxOf(0, 0, 0, 0), boxOf(1, 2, 3, 4), boxOf(most, most, most, most)},
		Gates:  []box{boxOf(-most, -most, most, most), boxOf(5, 6, 7, 8), boxOf(-1, -2, -1, -2)},
		Finish: boxOf(most, -most, most, most), Bans: 3,
	}, 275682)
}

func TestLevelHashByDefinition(t *testing.T) {
	for _, l := range levels() {
		checkLevelHash(t, l, levelHashByDefinition(l))
	}
}

func TestFunctionsOfInvalidLevels(t *testing.T) {
	for _, l := range invalidLevels() {
		for _, v := range []vec{l.Start, {}, {X: 700000, Y: -700000}, {X: maxCoordinate + 1}} {
			checkFree(t, l, v, false)
		}
		for _, ban := range []int{banBrake, banPause, 0, 3, l.Bans} {
			checkBans(t, l, ban, false)
		}
		checkLevelHash(t, l, -1)
	}
	// All that LevelBans would need is here, but not the tick.
	checkBans(t, level{Bans: 3}, banBrake, false)
	checkBans(t, level{Bans: 3}, banPause, false)
}

func TestLevelsWithNilAndEmptySlices(t *testing.T) {
	// What is behind the end of a slice is not part of the level.
	behind := []box{boxOf(0, 0, 0, 0), boxOf(1, 0, 0, 0)}
	for _, empty := range [][]box{{}, make([]box, 0, 9), behind[:0]} {
		for bans := range 4 {
			l := withBans(bareLevel(), bans)
			other := withWalls(withGates(l, empty...), empty...)
			checkLevel(t, l, true)
			checkLevel(t, other, true)
			checkLevelHash(t, other, impl.LevelHash(l))
			for _, ban := range []int{banBrake, banPause, 3} {
				checkBans(t, other, ban, impl.LevelBans(l, ban))
			}
			for _, v := range vectors() {
				checkFree(t, l, v, true)
				checkFree(t, other, v, true)
			}
		}
	}
}

func TestLevelsLeaveTheirBoxes(t *testing.T) {
	for _, l := range append(levels(), invalidLevels()...) {
		// What is behind the walls and the gates in memory is not touched either.
		walls := slices.Concat(l.Walls, []box{boxOf(1, 2, 3, 4), boxOf(5, 6, 7, 8)})
		gates := slices.Concat(l.Gates, []box{boxOf(11, 12, 13, 14), boxOf(15, 16, 17, 18)})
		wallsBefore, gatesBefore := slices.Clone(walls), slices.Clone(gates)
		part := withWalls(withGates(l, gates[:len(l.Gates)]...), walls[:len(l.Walls)]...)
		impl.LevelValid(part)
		impl.LevelFree(part, vec{X: 7, Y: 7})
		impl.LevelBans(part, banBrake)
		impl.LevelHash(part)
		if !slices.Equal(walls, wallsBefore) || !slices.Equal(gates, gatesBefore) {
			t.Errorf("the walls or the gates of %v were changed", shownLevel(l))
		}
	}
}

func TestLevelsKeepNoState(t *testing.T) {
	first, second := fullLevel(), withWalls(roadLevel(), boxOf(-9, -9, 9, 9))
	hash := impl.LevelHash(first)
	for range 3 {
		checkLevel(t, second, false)
		checkLevelHash(t, second, -1)
		checkLevelHash(t, roadLevel(), 275117)
		checkLevel(t, first, true)
		checkLevelHash(t, first, hash)
		checkFree(t, first, first.Start, true)
	}
}

func TestP56(t *testing.T) {
	for _, l := range levels() {
		checkFree(t, l, l.Start, true)
	}
	for _, step := range freeSteps() {
		checkFree(t, withWalls(bareLevel(), pointBox(step)), vec{}, true)
	}
	for _, l := range invalidLevels() {
		checkFree(t, l, l.Start, false)
	}
}

func TestP57(t *testing.T) {
	for _, l := range levels() {
		for _, v := range levelPoints(l) {
			touched := slices.ContainsFunc(l.Walls, func(b box) bool { return impl.BoxTouches(b, v, carRadius) })
			checkFree(t, l, v, !touched)
			checkFree(t, l, v, freeByDefinition(l.Walls, v))
		}
	}
}

func TestP58(t *testing.T) {
	for _, l := range levels() {
		for index := range l.Walls {
			fewer := withWalls(l, without(l.Walls, index)...)
			checkLevel(t, fewer, true)
			for _, v := range levelPoints(l) {
				if impl.LevelFree(l, v) {
					checkFree(t, fewer, v, true)
				}
			}
		}
	}
}

// Each wall alone decides about the points that only it is near to.
func TestEachWallCounts(t *testing.T) {
	walls := []box{boxOf(5000, 0, 6000, 0), boxOf(-6000, 0, -5000, 0), boxOf(0, 5000, 0, 6000), boxOf(0, -6000, 0, -5000)}
	l := withWalls(bareLevel(), walls...)
	for index, wall := range walls {
		checkFree(t, l, wall.Low, false)
		checkFree(t, l, wall.High, false)
		checkFree(t, withWalls(l, without(walls, index)...), wall.Low, true)
		checkLevel(t, withStart(l, wall.Low), false)
	}
}

func TestP59(t *testing.T) {
	for _, l := range levels() {
		checkBans(t, l, 1, l.Bans == 1 || l.Bans == 3)
		checkBans(t, l, 2, l.Bans == 2 || l.Bans == 3)
	}
	for _, l := range baseLevels() {
		checkBans(t, withBans(l, 0), banBrake, false)
		checkBans(t, withBans(l, 0), banPause, false)
		checkBans(t, withBans(l, 1), banBrake, true)
		checkBans(t, withBans(l, 1), banPause, false)
		checkBans(t, withBans(l, 2), banBrake, false)
		checkBans(t, withBans(l, 2), banPause, true)
		checkBans(t, withBans(l, 3), banBrake, true)
		checkBans(t, withBans(l, 3), banPause, true)
	}
}

func TestP60(t *testing.T) {
	for _, l := range levels() {
		for number := 0; number <= maxLevel; number++ {
			if number != l.Id {
				checkOtherHash(t, l, withNumber(l, number))
			}
		}
		for ticks := 1; ticks <= maxTicks; ticks++ {
			if ticks != l.Ticks {
				checkOtherHash(t, l, withTicks(l, ticks))
			}
		}
	}
}

// Both change at once.
func TestP60ForAllNumbersAndTicks(t *testing.T) {
	for _, l := range baseLevels() {
		seen := map[int]level{}
		for number := 0; number <= maxLevel; number++ {
			for ticks := 1; ticks <= maxTicks; ticks++ {
				other := withTicks(withNumber(l, number), ticks)
				hash := impl.LevelHash(other)
				if same, ok := seen[hash]; ok {
					t.Errorf("LevelHash is %d of %v and of %v", hash, same, other)
				}
				seen[hash] = other
			}
		}
	}
}

func TestP61(t *testing.T) {
	for _, l := range levels() {
		for _, step := range []int{1, 2, 500, 8190, 8191, hashes / 2, maxCoordinate, hashes - 2, hashes - 1} {
			for _, n := range []int{step, -step} {
				low, high := l.Finish.Low, l.Finish.High
				for _, finish := range []box{
					boxOf(low.X+n, low.Y, high.X, high.Y), boxOf(low.X, low.Y+n, high.X, high.Y),
					boxOf(low.X, low.Y, high.X+n, high.Y), boxOf(low.X, low.Y, high.X, high.Y+n),
				} {
					if impl.BoxValid(finish) {
						checkOtherHash(t, l, withFinish(l, finish))
					} else {
						checkLevelHash(t, withFinish(l, finish), -1)
					}
				}
			}
		}
	}
}

func TestP62(t *testing.T) {
	for _, l := range levels() {
		for len(l.Gates) > 0 {
			l = withGates(l, l.Gates[:len(l.Gates)-1]...)
			checkLevel(t, l, true)
			checkLevelHash(t, l, levelHashByDefinition(l))
		}
	}
}

func TestP63(t *testing.T) {
	others := []int{
		0, 3, 4, 5, 6, 7, 8, -1, -2, -3, 257, 258, 1<<32 + 1, 1<<32 + 2, -1<<32 + 1,
		math.MaxInt32, math.MinInt32, math.MaxInt - 1, math.MaxInt, math.MinInt + 1, math.MinInt + 2, math.MinInt,
	}
	for _, l := range append(levels(), invalidLevels()...) {
		for _, ban := range others {
			checkBans(t, l, ban, false)
		}
	}
}
