package tests

import (
	"math"
	"math/rand"
	"slices"
	"testing"

	"loop.example/replayverifier/impl"
)

type state = impl.State

const (
	maxSpeed   = impl.MaxSpeed
	directions = impl.Directions
)

func drive() input { return input{Power: powerGo} }

// carAt returns a car at rest in direction 0.
func carAt(x, y int) state { return state{At: vec{X: x, Y: y}} }

func withTick(s state, tick int) state {
	s.Tick = tick
	return s
}

func withPlace(s state, at vec) state {
	s.At = at
	return s
}

func withFast(s state, x, y int) state {
	s.Fast = vec{X: x, Y: y}
	return s
}

func withTurn(s state, turn int) state {
	s.Turn = turn
	return s
}

func withGate(s state, gate int) state {
	s.Gate = gate
	return s
}

func withEnd(s state, done, over bool) state {
	s.Done, s.Over = done, over
	return s
}

// pushes returns what is added to the speed in each direction.
func pushes() []vec {
	return []vec{
		{X: 200, Y: 0}, {X: 184, Y: 76}, {X: 141, Y: 141}, {X: 76, Y: 184},
		{X: 0, Y: 200}, {X: -76, Y: 184}, {X: -141, Y: 141}, {X: -184, Y: 76},
		{X: -200, Y: 0}, {X: -184, Y: -76}, {X: -141, Y: -141}, {X: -76, Y: -184},
		{X: 0, Y: -200}, {X: 76, Y: -184}, {X: 141, Y: -141}, {X: 184, Y: -76},
	}
}

// openLevel returns a level without walls and gates, with a finish that is far
// away from the start.
func openLevel() level {
	return withFinish(bareLevel(), pointBox(vec{X: -maxCoordinate, Y: 777777}))
}

// engineLevels returns valid levels: narrow ones, in which cars keep hitting
// walls, and those of chapter 11.
func engineLevels() []level {
	cell := withFinish(fullLevel(), boxOf(9990, -20010, 10010, -19990))
	post := withWalls(openLevel(), pointBox(vec{X: 900, Y: 0}), pointBox(vec{X: 0, Y: 700}), boxOf(-700, -900, -600, -800))
	end := withStart(openLevel(), vec{X: maxCoordinate - 900, Y: 600 - maxCoordinate})
	fence := withWalls(end, boxOf(maxCoordinate-300, -maxCoordinate, maxCoordinate, -maxCoordinate+50))
	gates := withGates(openLevel(), boxOf(-100, -100, 100, 100), boxOf(-100, -100, 300, 300), boxOf(-900, -900, 900, 900))
	return append(levels(), openLevel(), cell, withGates(cell), post, end, fence, gates, withFinish(gates, boxOf(-900, 0, 900, 900)))
}

// squareRoot returns the greatest integer whose square is at most n.
func squareRoot(n int) int {
	root := int(math.Sqrt(float64(n)))
	for root*root > n {
		root--
	}
	for (root+1)*(root+1) <= n {
		root++
	}
	return root
}

func speedByDefinition(fast vec) int {
	return squareRoot(fast.X*fast.X + fast.Y*fast.Y)
}

// stateByDefinition reports whether s is valid in a valid level, as far as its
// numbers are small enough to be squared.
func stateByDefinition(l level, s state) bool {
	switch {
	case s.Tick < 0 || s.Tick > 60 || s.Tick > l.Ticks:
		return false
	case !coordinatesInRange(s.At) || !coordinatesInRange(s.Fast) || speedByDefinition(s.Fast) > 2000:
		return false
	case s.Turn < 0 || s.Turn > 15 || s.Gate < 0 || s.Gate > 3 || s.Gate > len(l.Gates):
		return false
	case s.Done && s.Over || s.Done && s.Gate != len(l.Gates):
		return false
	}
	return freeByDefinition(l.Walls, s.At)
}

// speedAfter returns how fast the car is ahead of its move.
func speedAfter(s state, turn, power int) vec {
	x, y := s.Fast.X, s.Fast.Y
	switch power {
	case 0:
		return vec{X: x * 950 / 1000, Y: y * 950 / 1000}
	case 2:
		return vec{X: x * 700 / 1000, Y: y * 700 / 1000}
	}
	x, y = x+pushes()[turn].X, y+pushes()[turn].Y
	if length := squareRoot(x*x + y*y); length > 2000 {
		return vec{X: x * 2000 / length, Y: y * 2000 / length}
	}
	return vec{X: x, Y: y}
}

// moveByDefinition moves the car by its speed.
func moveByDefinition(walls []box, s *state) {
	if there := (vec{X: s.At.X + s.Fast.X, Y: s.At.Y}); freeByDefinition(walls, there) {
		s.At = there
	} else {
		s.Fast.X = -s.Fast.X / 2
	}
	if there := (vec{X: s.At.X, Y: s.At.Y + s.Fast.Y}); freeByDefinition(walls, there) {
		s.At = there
	} else {
		s.Fast.Y = -s.Fast.Y / 2
	}
}

// stepByDefinition returns the state after a tick, for a valid state, level and
// input, unless there is no tick left.
func stepByDefinition(l level, s state, x input) (state, bool) {
	if s.Done || s.Over {
		return s, true
	}
	if s.Tick == l.Ticks {
		return state{}, false
	}
	next := withTick(s, s.Tick+1)
	if x.Pause {
		return next, true
	}
	next.Turn = (s.Turn + x.Steer + 16) % 16
	next.Fast = speedAfter(s, next.Turn, x.Power)
	moveByDefinition(l.Walls, &next)
	if !coordinatesInRange(next.At) {
		return withEnd(withTick(s, s.Tick+1), false, true), true
	}
	if next.Gate < len(l.Gates) && between(l.Gates[next.Gate], next.At) {
		next.Gate++
	}
	next.Done = next.Gate == len(l.Gates) && between(l.Finish, next.At)
	return next, true
}

// fasts returns speeds that are not too large: those around 0, those whose
// scaled or halved coordinates are rounded, and those at the limit.
func fasts() []vec {
	return inAllQuarters([]vec{
		{}, {X: 1}, {X: 1, Y: 1}, {X: 2, Y: 1}, {X: 3, Y: 7}, {X: 19, Y: 21}, {X: 101, Y: 99}, {X: 400, Y: 100}, {X: 999, Y: 1001},
		{X: 1799}, {X: 1800}, {X: 1801}, {X: 1999}, {X: 2000}, {X: 2000, Y: 63}, {X: 1999, Y: 89}, {X: 1800, Y: 60}, {X: 1800, Y: 64},
		{X: 1414, Y: 1414}, {X: 1414, Y: 1415}, {X: 1200, Y: 1600}, {X: 1201, Y: 1600},
	})
}

// longFasts returns speeds that are too large, though both coordinates of some
// of them are not.
func longFasts() []vec {
	return inAllQuarters([]vec{
		{X: 2001}, {X: 2001, Y: 1}, {X: 2000, Y: 64}, {X: 1999, Y: 90}, {X: 1415, Y: 1415}, {X: 2000, Y: 2000},
		{X: 1202, Y: 1601}, {X: 65536}, {X: 1 << 16, Y: 1 << 16}, {X: maxCoordinate}, {X: maxCoordinate, Y: maxCoordinate},
	})
}

// drawnPlaces returns points of a level where the car is free: those close to
// its walls and gates, at the ends of the range, and within reach of the start.
func drawnPlaces(l level, draw *rand.Rand, many int) []vec {
	const most = maxCoordinate
	list := append(levelPoints(l), vec{X: most - 100, Y: 0}, vec{X: 0, Y: 150 - most}, vec{X: most - 1, Y: most}, vec{X: -most, Y: most - 1})
	for _, b := range append(slices.Clone(l.Gates), l.Finish) {
		list = append(list, pointsAround(b)...)
	}
	for range len(list) {
		list = append(list, vec{X: l.Start.X + draw.Intn(4001) - 2000, Y: l.Start.Y + draw.Intn(4001) - 2000})
	}
	list = slices.DeleteFunc(list, func(v vec) bool { return !coordinatesInRange(v) || !freeByDefinition(l.Walls, v) })
	places := []vec{l.Start}
	for range many {
		places = append(places, list[draw.Intn(len(list))])
	}
	return places
}

// drawnStates returns valid states of a level, of which most go on.
func drawnStates(l level, draw *rand.Rand, many int) []state {
	var list []state
	edges := fasts()
	for _, at := range drawnPlaces(l, draw, many) {
		s := state{At: at, Tick: draw.Intn(l.Ticks + 1), Turn: draw.Intn(16), Gate: draw.Intn(len(l.Gates) + 1)}
		s.Fast = edges[draw.Intn(len(edges))]
		if draw.Intn(2) == 0 {
			s.Fast = vec{X: draw.Intn(2801) - 1400, Y: draw.Intn(2801) - 1400}
		}
		switch draw.Intn(20) {
		case 0:
			s.Gate, s.Done = len(l.Gates), true
		case 1:
			s.Over = true
		case 2:
			s.Tick = l.Ticks
		case 3:
			s.Tick = l.Ticks - 1
		case 4:
			s.Fast = vec{}
		}
		list = append(list, s)
	}
	return list
}

// driverInput returns an input of a drawn run, which mostly speeds up and
// changes its direction from time to time.
func driverInput(draw *rand.Rand) input {
	if draw.Intn(3) == 0 {
		return inputsByCode()[draw.Intn(10)]
	}
	return input{Steer: []int{-1, 0, 0, 0, 1}[draw.Intn(5)], Power: powerGo}
}

// eachState calls check with valid states of all kinds of levels: drawn ones,
// and those of drawn runs.
func eachState(check func(l level, s state)) {
	draw := rand.New(rand.NewSource(14))
	for _, l := range engineLevels() {
		for _, s := range drawnStates(l, draw, 30) {
			check(l, s)
		}
		s := state{At: l.Start}
		for range l.Ticks + 2 {
			check(l, s)
			next, ok := stepByDefinition(l, s, driverInput(draw))
			if !ok {
				break
			}
			s = next
		}
	}
}

// eachTick calls check with all valid inputs in all kinds of states, and with
// what EngineStep returns for them, where it succeeds.
func eachTick(check func(l level, s state, x input, after state)) {
	eachState(func(l level, s state) {
		for _, x := range inputsByCode() {
			if after, ok := impl.EngineStep(l, s, x); ok {
				check(l, s, x, after)
			}
		}
	})
}

// goesOn reports whether a run has neither finished nor left the range.
func goesOn(s state) bool {
	return !s.Done && !s.Over
}

// impossibleStates returns states that are valid in no level, but for one thing
// valid in a level without walls.
func impossibleStates() []state {
	base := state{Tick: 3, At: vec{X: 5, Y: -5}, Fast: vec{X: 100, Y: 200}, Turn: 7}
	list := []state{withEnd(base, true, true), withEnd(state{}, true, true)}
	for _, s := range []state{{}, base, withEnd(base, true, false), withEnd(base, false, true)} {
		for _, n := range outsideOf(0, maxTicks) {
			list = append(list, withTick(s, n))
		}
		for _, n := range outsideOf(0, directions-1) {
			list = append(list, withTurn(s, n))
		}
		for _, n := range outsideOf(0, maxGates) {
			list = append(list, withGate(s, n))
		}
		for _, v := range outsideVectors() {
			list = append(list, withPlace(s, v), withFast(s, v.X, v.Y))
		}
		for _, v := range longFasts() {
			list = append(list, withFast(s, v.X, v.Y))
		}
	}
	return list
}

// statesOfOtherLevels returns states that are not valid in l, but are valid in
// some other level.
func statesOfOtherLevels(l level) []state {
	var list []state
	start := state{At: l.Start}
	if l.Ticks < maxTicks {
		for _, tick := range []int{l.Ticks + 1, maxTicks} {
			s := withGate(withTick(start, tick), len(l.Gates))
			list = append(list, withTick(start, tick), withEnd(s, true, false), withEnd(s, false, true))
		}
	}
	for gate := len(l.Gates) + 1; gate <= maxGates; gate++ {
		s := withGate(start, gate)
		list = append(list, s, withEnd(s, true, false), withEnd(s, false, true))
	}
	for gate := range l.Gates {
		list = append(list, withEnd(withGate(start, gate), true, false))
	}
	for index, v := range levelPoints(l) {
		// There are so many of these points that a part of them is enough.
		if s := withGate(withPlace(start, v), len(l.Gates)); index%11 == 0 && !freeByDefinition(l.Walls, v) {
			list = append(list, s, withEnd(s, true, false), withEnd(s, false, true))
		}
	}
	return list
}

func checkStart(t *testing.T, l level, want state, wantOk bool) {
	t.Helper()
	if got, ok := impl.EngineStart(l); got != want || ok != wantOk {
		t.Errorf("EngineStart(%v) = %v, %v, want %v, %v", shownLevel(l), got, ok, want, wantOk)
	}
}

func checkState(t *testing.T, l level, s state, want bool) {
	t.Helper()
	if got := impl.EngineValid(l, s); got != want {
		t.Errorf("EngineValid(%v, %v) = %v", shownLevel(l), s, got)
	}
}

func checkStep(t *testing.T, l level, s state, x input, want state, wantOk bool) {
	t.Helper()
	if got, ok := impl.EngineStep(l, s, x); got != want || ok != wantOk {
		t.Errorf("EngineStep(%v, %v, %v) = %v, %v, want %v, %v", shownLevel(l), s, x, got, ok, want, wantOk)
	}
}

func checkStateHash(t *testing.T, s state, want int) {
	t.Helper()
	if got := impl.EngineHash(s); got != want {
		t.Errorf("EngineHash(%v) = %d, want %d", s, got, want)
	}
}

func checkSpeed(t *testing.T, s state, want int, wantOk bool) {
	t.Helper()
	if got, ok := impl.EngineSpeed(s); got != want || ok != wantOk {
		t.Errorf("EngineSpeed(%v) = %d, %v, want %d, %v", s, got, ok, want, wantOk)
	}
}

// stepOf returns EngineStep where it must not fail.
func stepOf(t *testing.T, l level, s state, x input) state {
	t.Helper()
	after, ok := impl.EngineStep(l, s, x)
	if !ok {
		t.Errorf("EngineStep(%v, %v, %v) fails", shownLevel(l), s, x)
	}
	return after
}

// moveRow is a tick that rolls from From with the speed Fast.
type moveRow struct {
	walls            []box
	from, fast       vec
	wantAt, wantFast vec
}

// checkMoves checks rows, and the same rows in the mirror of either axis.
func checkMoves(t *testing.T, rows []moveRow) {
	t.Helper()
	for _, r := range rows {
		for _, sx := range []int{1, -1} {
			for _, sy := range []int{1, -1} {
				m := mirror{sx, sy}
				l := withWalls(withStart(openLevel(), m.vec(r.from)), m.boxes(r.walls)...)
				from := state{Tick: 4, At: m.vec(r.from), Fast: m.vec(r.fast), Turn: 9}
				want := state{Tick: 5, At: m.vec(r.wantAt), Fast: m.vec(r.wantFast), Turn: 9}
				checkStep(t, l, from, input{}, want, true)
			}
		}
	}
}

// mirror has the factors of both coordinates, each 1 or -1.
type mirror struct{ x, y int }

func (m mirror) vec(v vec) vec {
	return vec{X: m.x * v.X, Y: m.y * v.Y}
}

func (m mirror) boxes(list []box) []box {
	var mirrored []box
	for _, b := range list {
		a, c := m.vec(b.Low), m.vec(b.High)
		mirrored = append(mirrored, boxOf(min(a.X, c.X), min(a.Y, c.Y), max(a.X, c.X), max(a.Y, c.Y)))
	}
	return mirrored
}

// swapped returns rows with both axes exchanged, for rows in which it makes no
// difference which axis comes first.
func swapped(rows []moveRow) []moveRow {
	swap := func(v vec) vec { return vec{X: v.Y, Y: v.X} }
	var list []moveRow
	for _, r := range rows {
		s := moveRow{from: swap(r.from), fast: swap(r.fast), wantAt: swap(r.wantAt), wantFast: swap(r.wantFast)}
		for _, b := range r.walls {
			s.walls = append(s.walls, box{Low: swap(b.Low), High: swap(b.High)})
		}
		list = append(list, s)
	}
	return list
}

func TestConstantsOfChapter13(t *testing.T) {
	if impl.Push != 200 || maxSpeed != 2000 {
		t.Errorf("Push is %d, MaxSpeed is %d", impl.Push, maxSpeed)
	}
}

func TestEngineStartInInvalidLevels(t *testing.T) {
	for _, l := range append(invalidLevels(), level{}) {
		checkStart(t, l, state{}, false)
	}
}

// The start may be in a gate or at the finish, which counts after a tick only.
func TestEngineStartPassesNothing(t *testing.T) {
	l := withFinish(withGates(withStart(bareLevel(), vec{X: 70, Y: -80}), pointBox(vec{X: 70, Y: -80})), pointBox(vec{X: 70, Y: -80}))
	checkStart(t, l, carAt(70, -80), true)
	checkStart(t, withGates(l), carAt(70, -80), true)
	checkStep(t, l, carAt(70, -80), input{}, withEnd(withGate(withTick(carAt(70, -80), 1), 1), true, false), true)
	checkStep(t, withGates(l), carAt(70, -80), input{}, withEnd(withTick(carAt(70, -80), 1), true, false), true)
}

func TestEngineValidLimits(t *testing.T) {
	gate := boxOf(0, 0, 10, 10)
	for ticks := 1; ticks <= maxTicks; ticks++ {
		l := withTicks(openLevel(), ticks)
		for _, tick := range []int{0, 1, ticks - 1, ticks} {
			checkState(t, l, withTick(state{}, tick), true)
		}
		checkState(t, l, withTick(state{}, ticks+1), false)
		checkState(t, l, withTick(state{}, -1), false)
	}
	for gates := 0; gates <= maxGates; gates++ {
		l := withGates(openLevel(), slices.Repeat([]box{gate}, gates)...)
		for passed := -2; passed <= maxGates+2; passed++ {
			s := withGate(state{}, passed)
			checkState(t, l, s, 0 <= passed && passed <= gates)
			checkState(t, l, withEnd(s, false, true), 0 <= passed && passed <= gates)
			checkState(t, l, withEnd(s, true, false), passed == gates)
			checkState(t, l, withEnd(s, true, true), false)
		}
	}
	for turn := -20; turn <= 40; turn++ {
		checkState(t, openLevel(), withTurn(state{}, turn), 0 <= turn && turn <= 15)
	}
	for _, v := range fasts() {
		checkState(t, openLevel(), withFast(state{}, v.X, v.Y), true)
	}
}

func TestEngineValidPlaces(t *testing.T) {
	for _, l := range engineLevels() {
		for _, v := range levelPoints(l) {
			checkState(t, l, withPlace(state{}, v), freeByDefinition(l.Walls, v))
		}
	}
	l := withWalls(openLevel(), boxOf(1000, -1000, 2000, 1000))
	for _, x := range []int{-maxCoordinate, 498, 499, 2501, maxCoordinate} {
		checkState(t, l, carAt(x, 0), true)
	}
	for _, x := range []int{-maxCoordinate - 1, 500, 501, 1000, 2499, 2500, maxCoordinate + 1} {
		checkState(t, l, carAt(x, 0), false)
	}
}

// A state that has finished may be anywhere.
func TestEngineValidFarFromTheFinish(t *testing.T) {
	l := withGates(openLevel(), boxOf(5000, 5000, 6000, 6000))
	checkState(t, l, withEnd(withGate(carAt(1, 2), 1), true, false), true)
	checkState(t, l, withEnd(withGate(carAt(1, 2), 0), true, false), false)
	checkState(t, l, withEnd(carAt(1, 2), false, true), true)
}

func TestEngineOfImpossibleStates(t *testing.T) {
	for _, s := range impossibleStates() {
		for _, l := range []level{openLevel(), withTicks(openLevel(), maxTicks), withTicks(fullLevel(), maxTicks)} {
			checkState(t, l, s, false)
			for _, x := range []input{{}, drive(), pause(), {Steer: 2}} {
				checkStep(t, l, s, x, state{}, false)
			}
		}
		checkStateHash(t, s, -1)
		checkSpeed(t, s, 0, false)
	}
}

func TestEngineOfStatesOfOtherLevels(t *testing.T) {
	for _, l := range engineLevels() {
		for _, s := range statesOfOtherLevels(l) {
			checkState(t, l, s, false)
			for _, x := range []input{{}, drive(), pause(), {Power: 3}} {
				checkStep(t, l, s, x, state{}, false)
			}
			// Neither of these knows the level.
			if impl.EngineHash(s) < 0 {
				t.Errorf("EngineHash(%v) = %d", s, impl.EngineHash(s))
			}
			checkSpeed(t, s, 0, true)
		}
	}
}

func TestEngineInInvalidLevels(t *testing.T) {
	for _, l := range append(invalidLevels(), level{}) {
		for _, s := range []state{{}, {At: l.Start}, {Tick: 1}, {Done: true}, {At: l.Start, Over: true}} {
			checkState(t, l, s, false)
			for _, x := range []input{{}, drive(), pause()} {
				checkStep(t, l, s, x, state{}, false)
			}
		}
	}
}

func TestEngineStepWithInvalidInputs(t *testing.T) {
	for _, l := range []level{openLevel(), roadLevel(), fullLevel()} {
		start := state{At: l.Start}
		all := withGate(start, len(l.Gates))
		for _, s := range []state{start, withTick(start, l.Ticks), withFast(start, 100, -100), withEnd(all, true, false), withEnd(start, false, true)} {
			checkState(t, l, s, true)
			for _, x := range invalidInputs() {
				checkStep(t, l, s, x, state{}, false)
			}
		}
	}
}

// What is forbidden is checked by chapter 12, not by the engine.
func TestEngineStepIgnoresBans(t *testing.T) {
	for bans := range 4 {
		l := withBans(openLevel(), bans)
		s := withFast(state{}, 1000, -500)
		checkStep(t, l, s, pause(), withTick(s, 1), true)
		checkStep(t, l, s, brake(), state{Tick: 1, At: vec{X: 700, Y: -350}, Fast: vec{X: 700, Y: -350}}, true)
	}
}

func TestEveryDirectionWithEverySteering(t *testing.T) {
	rows := []struct{ turn, left, right int }{
		{0, 15, 1}, {1, 0, 2}, {2, 1, 3}, {3, 2, 4}, {4, 3, 5}, {5, 4, 6}, {6, 5, 7}, {7, 6, 8},
		{8, 7, 9}, {9, 8, 10}, {10, 9, 11}, {11, 10, 12}, {12, 11, 13}, {13, 12, 14}, {14, 13, 15}, {15, 14, 0},
	}
	for _, r := range rows {
		for _, turned := range []struct{ steer, want int }{{-1, r.left}, {0, r.turn}, {1, r.right}} {
			s := withTurn(state{}, r.turn)
			still := withTick(withTurn(s, turned.want), 1)
			checkStep(t, openLevel(), s, input{Steer: turned.steer}, still, true)
			checkStep(t, openLevel(), s, input{Steer: turned.steer, Power: powerBrake}, still, true)
			// The push is in the new direction.
			push := pushes()[turned.want]
			moving := withPlace(withFast(still, push.X, push.Y), push)
			checkStep(t, openLevel(), s, input{Steer: turned.steer, Power: powerGo}, moving, true)
		}
		checkStep(t, openLevel(), withTurn(state{}, r.turn), pause(), withTick(withTurn(state{}, r.turn), 1), true)
	}
}

func TestSpeedsOfEveryPower(t *testing.T) {
	rows := []struct{ fast, roll, brake, push vec }{
		{vec{}, vec{}, vec{}, vec{X: 200}},
		{vec{X: 1000, Y: 1000}, vec{X: 950, Y: 950}, vec{X: 700, Y: 700}, vec{X: 1200, Y: 1000}},
		// Rounded towards zero, on either side of it.
		{vec{X: 1, Y: -1}, vec{}, vec{}, vec{X: 201, Y: -1}},
		{vec{X: 2, Y: -2}, vec{X: 1, Y: -1}, vec{X: 1, Y: -1}, vec{X: 202, Y: -2}},
		{vec{X: -3, Y: 3}, vec{X: -2, Y: 2}, vec{X: -2, Y: 2}, vec{X: 197, Y: 3}},
		{vec{X: -21, Y: -19}, vec{X: -19, Y: -18}, vec{X: -14, Y: -13}, vec{X: 179, Y: -19}},
		{vec{X: -999, Y: -1001}, vec{X: -949, Y: -950}, vec{X: -699, Y: -700}, vec{X: -799, Y: -1001}},
		{vec{X: -2000, Y: -63}, vec{X: -1900, Y: -59}, vec{X: -1400, Y: -44}, vec{X: -1800, Y: -63}},
		// Just below the limit, at it, and above it.
		{vec{X: 1799}, vec{X: 1709}, vec{X: 1259}, vec{X: 1999}},
		{vec{X: 1800}, vec{X: 1710}, vec{X: 1260}, vec{X: 2000}},
		{vec{X: 1801}, vec{X: 1710}, vec{X: 1260}, vec{X: 2000}},
		{vec{X: 2000}, vec{X: 1900}, vec{X: 1400}, vec{X: 2000}},
		// The length is rounded down, so that a little more is not too much.
		{vec{X: 1800, Y: 63}, vec{X: 1710, Y: 59}, vec{X: 1260, Y: 44}, vec{X: 2000, Y: 63}},
		{vec{X: 1800, Y: 64}, vec{X: 1710, Y: 60}, vec{X: 1260, Y: 44}, vec{X: 1999, Y: 63}},
		{vec{X: 1800, Y: -64}, vec{X: 1710, Y: -60}, vec{X: 1260, Y: -44}, vec{X: 1999, Y: -63}},
		{vec{X: 1414, Y: -1414}, vec{X: 1343, Y: -1343}, vec{X: 989, Y: -989}, vec{X: 1504, Y: -1318}},
	}
	for _, r := range rows {
		for _, power := range []struct {
			power int
			want  vec
		}{{powerNone, r.roll}, {powerGo, r.push}, {powerBrake, r.brake}} {
			s := withFast(carAt(-100, 300), r.fast.X, r.fast.Y)
			want := withTick(withFast(carAt(-100+power.want.X, 300+power.want.Y), power.want.X, power.want.Y), 1)
			checkStep(t, openLevel(), s, input{Power: power.power}, want, true)
		}
		s := withFast(carAt(-100, 300), r.fast.X, r.fast.Y)
		checkStep(t, openLevel(), s, pause(), withTick(s, 1), true)
	}
}

func TestSpeedsByDefinition(t *testing.T) {
	for _, fast := range fasts() {
		for turn := range directions {
			s := withTurn(withFast(state{}, fast.X, fast.Y), turn)
			for _, x := range inputsByCode() {
				want, _ := stepByDefinition(openLevel(), s, x)
				checkStep(t, openLevel(), s, x, want, true)
			}
		}
	}
}

func TestWallsAlongOneAxis(t *testing.T) {
	right := []box{boxOf(1000, -1000, 2000, 1000)}
	rows := []moveRow{
		{right, vec{X: 300}, vec{X: 400}, vec{X: 300}, vec{X: -190}},
		// From the side: the car slides along the wall.
		{right, vec{X: 300}, vec{X: 400, Y: 100}, vec{X: 300, Y: 95}, vec{X: -190, Y: 95}},
		{right, vec{X: 499}, vec{X: 20, Y: -900}, vec{X: 499, Y: -855}, vec{X: -9, Y: -855}},
		{right, vec{X: 499}, vec{X: 0, Y: 900}, vec{X: 499, Y: 855}, vec{X: 0, Y: 855}},
		// Away from the wall.
		{right, vec{X: 499}, vec{X: -20, Y: 40}, vec{X: 480, Y: 38}, vec{X: -19, Y: 38}},
		// Half of the speed is rounded towards zero, on either side of it.
		{right, vec{X: 499}, vec{X: 1}, vec{X: 499}, vec{}},
		{right, vec{X: 499}, vec{X: 2}, vec{X: 499}, vec{}},
		{right, vec{X: 499}, vec{X: 3}, vec{X: 499}, vec{X: -1}},
		{right, vec{X: 499}, vec{X: 6}, vec{X: 499}, vec{X: -2}},
		{right, vec{X: 499}, vec{X: 8}, vec{X: 499}, vec{X: -3}},
		{right, vec{X: 499}, vec{X: 2000, Y: 63}, vec{X: 499, Y: 59}, vec{X: -950, Y: 59}},
		// The wall is beside the car, all the way or at the end only.
		{right, vec{X: 0, Y: 1501}, vec{X: 1500, Y: 0}, vec{X: 1425, Y: 1501}, vec{X: 1425}},
		{right, vec{X: 600, Y: 1499}, vec{X: 400, Y: 0}, vec{X: 600, Y: 1499}, vec{X: -190}},
		// Where a move ends counts, not what is in between.
		{[]box{boxOf(0, -9000, 0, 9000)}, vec{X: -800}, vec{X: 2000}, vec{X: 1100}, vec{X: 1900}},
		{[]box{boxOf(0, -9000, 0, 9000)}, vec{X: -1399}, vec{X: 2000}, vec{X: 501}, vec{X: 1900}},
		{[]box{boxOf(0, -9000, 0, 9000)}, vec{X: -1400}, vec{X: 2000}, vec{X: -1400}, vec{X: -950}},
	}
	checkMoves(t, rows)
	checkMoves(t, swapped(rows))
}

func TestWallsAlongBothAxes(t *testing.T) {
	corner := []box{boxOf(1000, -9000, 2000, 9000), boxOf(-9000, 1000, 9000, 2000)}
	rows := []moveRow{
		{corner, vec{X: 300, Y: 300}, vec{X: 400, Y: 400}, vec{X: 300, Y: 300}, vec{X: -190, Y: -190}},
		{corner, vec{X: 499, Y: 499}, vec{X: 21, Y: 1001}, vec{X: 499, Y: 499}, vec{X: -9, Y: -475}},
		{corner, vec{X: 499, Y: 300}, vec{X: 20, Y: 100}, vec{X: 499, Y: 395}, vec{X: -9, Y: 95}},
		{corner, vec{X: 300, Y: 499}, vec{X: 100, Y: 20}, vec{X: 395, Y: 499}, vec{X: 95, Y: -9}},
		{corner, vec{X: 499, Y: 499}, vec{}, vec{X: 499, Y: 499}, vec{}},
		// All walls count, the last one as well as the first one.
		{append(slices.Repeat([]box{pointBox(vec{X: 90000})}, 2), corner...), vec{X: 300, Y: 300}, vec{X: 400, Y: 400}, vec{X: 300, Y: 300}, vec{X: -190, Y: -190}},
		{slices.Concat(corner, []box{pointBox(vec{X: 90000}), pointBox(vec{})})[:3], vec{X: 300, Y: 300}, vec{X: 400, Y: 400}, vec{X: 300, Y: 300}, vec{X: -190, Y: -190}},
	}
	checkMoves(t, rows)
	checkMoves(t, swapped(rows))
}

// The Y coordinate moves from the place after the X move, and the X coordinate
// from the place ahead of the Y move.
func TestThePlaceAfterTheXMove(t *testing.T) {
	post := []box{pointBox(vec{X: 1000, Y: 1000})}
	over := []box{boxOf(-2000, 500, -300, 3000)}
	beside := []box{boxOf(500, -2000, 3000, -300)}
	checkMoves(t, []moveRow{
		// Either move alone is free, but not both.
		{post, vec{X: 500, Y: 500}, vec{X: 300, Y: 300}, vec{X: 785, Y: 500}, vec{X: 285, Y: -142}},
		// The Y move alone would hit the wall, the X move leaves it behind.
		{over, vec{}, vec{X: 400, Y: 200}, vec{X: 380, Y: 190}, vec{X: 380, Y: 190}},
		{over, vec{}, vec{X: 0, Y: 200}, vec{}, vec{Y: -95}},
		// The X move hits the wall that the Y move would leave behind.
		{beside, vec{}, vec{X: 200, Y: 400}, vec{X: 0, Y: 380}, vec{X: -95, Y: 380}},
		{beside, vec{Y: 380}, vec{X: 200}, vec{X: 190, Y: 380}, vec{X: 190}},
		// If the X move is not made, the Y move is from the old place.
		{append(slices.Clone(post), boxOf(900, -9000, 1100, 150)), vec{X: 390, Y: 590}, vec{X: 300, Y: 300}, vec{X: 390, Y: 875}, vec{X: -142, Y: 285}},
	})
}

func TestTheRadiusAtTheEndOfAMove(t *testing.T) {
	for _, touching := range []bool{true, false} {
		steps := freeSteps()
		if touching {
			steps = touchingSteps()
		}
		for _, step := range steps {
			walls := []box{pointBox(vec{X: 20000 + step.X, Y: -3000 + step.Y})}
			rows := []moveRow{
				{walls, vec{X: 18480, Y: -3000}, vec{X: 1600}, vec{X: 20000, Y: -3000}, vec{X: 1520}},
				{walls, vec{X: 20000, Y: -1480}, vec{Y: -1600}, vec{X: 20000, Y: -3000}, vec{Y: -1520}},
			}
			if touching {
				rows[0].wantAt, rows[0].wantFast = rows[0].from, vec{X: -760}
				rows[1].wantAt, rows[1].wantFast = rows[1].from, vec{Y: 760}
			}
			checkMoves(t, rows)
		}
	}
	right := []box{boxOf(1000, -1000, 2000, 1000)}
	rows := []moveRow{
		{right, vec{X: 119}, vec{X: 400}, vec{X: 499}, vec{X: 380}},
		{right, vec{X: 120}, vec{X: 400}, vec{X: 120}, vec{X: -190}},
		{right, vec{X: 121}, vec{X: 400}, vec{X: 121}, vec{X: -190}},
	}
	checkMoves(t, rows)
	checkMoves(t, swapped(rows))
}

// leaveRow is a tick at the end of the range.
type leaveRow struct {
	walls      []box
	from, fast vec
	leaves     bool
}

func TestTheEndsOfTheRange(t *testing.T) {
	const most = maxCoordinate
	rows := []leaveRow{
		{nil, vec{X: most - 381}, vec{X: 400}, false}, {nil, vec{X: most - 380}, vec{X: 400}, false},
		{nil, vec{X: most - 379}, vec{X: 400}, true}, {nil, vec{X: most}, vec{X: 2}, true}, {nil, vec{X: most}, vec{X: 1}, false},
		{nil, vec{X: most}, vec{Y: 2000}, false}, {nil, vec{X: most}, vec{X: -2000}, false},
		{nil, vec{X: most}, vec{X: -1900, Y: 60}, false}, {nil, vec{X: most}, vec{X: 2000, Y: -63}, true},
		{nil, vec{Y: most - 380}, vec{Y: 400}, false}, {nil, vec{Y: most - 379}, vec{Y: 400}, true},
		{nil, vec{Y: most}, vec{X: 400, Y: 2}, true}, {nil, vec{Y: most}, vec{X: 400, Y: 1}, false},
		{nil, vec{X: most, Y: most}, vec{}, false}, {nil, vec{X: most, Y: most}, vec{X: 2}, true}, {nil, vec{X: most, Y: most}, vec{Y: 2}, true},
		{nil, vec{X: most, Y: most}, vec{X: -1, Y: 2}, true}, {nil, vec{X: most, Y: most}, vec{X: 2, Y: 2}, true},
		// The car hits a wall beyond which it would have left the range.
		{[]box{boxOf(most-100, -900, most, 900)}, vec{X: most - 700}, vec{X: 1100}, false},
		// Out of range, the distance is 500, just more, and just more than from the end of the range.
		{[]box{pointBox(vec{X: most, Y: 480})}, vec{X: most - 1000}, vec{X: 1200}, false},
		{[]box{pointBox(vec{X: most, Y: 481})}, vec{X: most - 1000}, vec{X: 1200}, true},
		{[]box{pointBox(vec{X: most, Y: 300})}, vec{X: most - 1000}, vec{X: 1474}, false},
		{[]box{pointBox(vec{X: most, Y: 300})}, vec{X: most - 1000}, vec{X: 1475}, true},
		{[]box{pointBox(vec{X: 480, Y: most})}, vec{Y: most - 1000}, vec{Y: 1200}, false},
		{[]box{pointBox(vec{X: 481, Y: most})}, vec{Y: most - 1000}, vec{Y: 1200}, true},
		// A wall is hit along Y by a car that has left the range along X.
		{[]box{pointBox(vec{X: most, Y: 700})}, vec{X: most - 10}, vec{X: 100, Y: 400}, true},
		// A wall keeps the car from leaving the range along X, but not along Y.
		{[]box{boxOf(most, -most, most, most)}, vec{X: most - 501, Y: most}, vec{X: 100, Y: 100}, true},
	}
	for _, r := range rows {
		checkLeaving(t, r)
	}
}

// checkLeaving checks a row, and the same row in the mirror of either axis.
func checkLeaving(t *testing.T, r leaveRow) {
	t.Helper()
	for _, m := range []mirror{{1, 1}, {-1, 1}, {1, -1}, {-1, -1}} {
		l := withWalls(openLevel(), m.boxes(r.walls)...)
		s := state{Tick: 7, At: m.vec(r.from), Fast: m.vec(r.fast), Turn: 3}
		for _, side := range []int{-1, 0, 1} {
			want := state{Tick: 8, At: s.At, Fast: s.Fast, Turn: 3, Over: true}
			if !r.leaves {
				want, _ = stepByDefinition(l, s, steer(side))
			}
			if want.Over != r.leaves {
				t.Errorf("the row %v is wrong", r)
			}
			checkStep(t, l, s, steer(side), want, true)
		}
		checkStep(t, l, s, pause(), withTick(s, 8), true)
	}
}

// The gate and the finish where the car was do not count if it leaves.
func TestLeavingTheRangeInAGate(t *testing.T) {
	all := boxOf(-maxCoordinate, -maxCoordinate, maxCoordinate, maxCoordinate)
	l := withFinish(withGates(bareLevel(), all), all)
	s := withFast(carAt(maxCoordinate-100, 50), 1000, 0)
	checkStep(t, l, s, input{}, withEnd(withTick(s, 1), false, true), true)
	checkStep(t, withGates(l), s, drive(), withEnd(withTick(s, 1), false, true), true)
	checkStep(t, l, s, pause(), withTick(s, 1), true)
}

func TestLeavingWithPower(t *testing.T) {
	for turn, push := range pushes() {
		at := vec{X: sign(push.X) * maxCoordinate, Y: sign(push.Y) * maxCoordinate}
		s := withTurn(withPlace(state{}, at), turn)
		checkStep(t, openLevel(), s, drive(), withEnd(withTick(s, 1), false, true), true)
		// Towards the middle, the car stays.
		away := withTurn(withPlace(state{}, negated(at)), turn)
		moved := vec{X: -at.X + push.X, Y: -at.Y + push.Y}
		checkStep(t, openLevel(), away, drive(), withTick(withFast(withPlace(away, moved), push.X, push.Y), 1), true)
	}
}

func TestGatesAtTheirBorders(t *testing.T) {
	rows := []struct {
		gate   box
		passed int
	}{
		{boxOf(380, 190, 380, 190), 1}, {boxOf(0, 0, 380, 190), 1}, {boxOf(380, 190, 900, 900), 1}, {boxOf(0, 190, 380, 900), 1}, {boxOf(380, 0, 900, 190), 1},
		{boxOf(0, 0, 379, 190), 0}, {boxOf(0, 0, 380, 189), 0}, {boxOf(381, 190, 900, 900), 0}, {boxOf(380, 191, 900, 900), 0},
		{boxOf(0, 0, 900, 900), 1}, {boxOf(-maxCoordinate, -maxCoordinate, maxCoordinate, maxCoordinate), 1},
		// The car was there, or was on its way through it.
		{boxOf(0, 0, 10, 10), 0}, {boxOf(100, 0, 300, 190), 0}, {boxOf(380, 0, 380, 0), 0},
	}
	for _, r := range rows {
		s := withFast(state{}, 400, 200)
		want := state{Tick: 1, At: vec{X: 380, Y: 190}, Fast: vec{X: 380, Y: 190}, Gate: r.passed}
		checkStep(t, withGates(openLevel(), r.gate), s, input{}, want, true)
		checkStep(t, withGates(openLevel(), r.gate, r.gate), s, input{}, want, true)
		checkStep(t, withGates(openLevel(), pointBox(vec{X: 7}), r.gate), withGate(s, 1), input{}, withGate(want, r.passed+1), true)
		// The finish has the same borders.
		want.Gate, want.Done = 0, r.passed == 1
		checkStep(t, withFinish(openLevel(), r.gate), s, input{}, want, true)
	}
}

func TestGatesAtTheSamePlace(t *testing.T) {
	here, far := boxOf(-5, -5, 5, 5), boxOf(7000, 7000, 8000, 8000)
	rows := []struct {
		gates  []box
		finish box
		want   []int
		done   int
	}{
		{[]box{here, here}, far, []int{1, 2, 2, 2}, 0},
		{[]box{here, here, here}, far, []int{1, 2, 3, 3}, 0},
		{[]box{here, here, here}, here, []int{1, 2, 3, 3}, 3},
		{[]box{here, here}, here, []int{1, 2, 2, 2}, 2},
		{[]box{here}, here, []int{1, 1, 1, 1}, 1},
		{nil, here, []int{0, 0, 0, 0}, 1},
		{nil, far, []int{0, 0, 0, 0}, 0},
		// In the wrong order.
		{[]box{far, here}, here, []int{0, 0, 0, 0}, 0},
		{[]box{here, far}, here, []int{1, 1, 1, 1}, 0},
		{[]box{here, far, here}, here, []int{1, 1, 1, 1}, 0},
		{[]box{far, here, here}, far, []int{0, 0, 0, 0}, 0},
	}
	for _, r := range rows {
		l := withFinish(withGates(bareLevel(), r.gates...), r.finish)
		s := state{}
		for index, gate := range r.want {
			done := r.done > 0 && index+1 >= r.done
			want := state{Tick: index + 1, Gate: gate, Done: done}
			if done {
				want.Tick = r.done
			}
			checkStep(t, l, s, input{}, want, true)
			checkStep(t, l, s, brake(), want, true)
			s = stepOf(t, l, s, input{})
		}
	}
}

// The car passes one place after the other along X, at 200, 600, 1200 and 2000.
func TestTheOrderOfGatesAndFinish(t *testing.T) {
	first, second, third, fourth := pointBox(vec{X: 200}), pointBox(vec{X: 600}), pointBox(vec{X: 1200}), pointBox(vec{X: 2000})
	rows := []struct {
		gates  []box
		finish box
		want   []int
		done   int
	}{
		{[]box{first, second, third}, fourth, []int{1, 2, 3, 3}, 4},
		{[]box{first, third}, fourth, []int{1, 1, 2, 2}, 4},
		{[]box{first, second}, second, []int{1, 2}, 2},
		{[]box{fourth}, fourth, []int{0, 0, 0, 1}, 4},
		// The finish is ahead of the last gate.
		{[]box{first, third}, second, []int{1, 1, 2, 2}, 0},
		{[]box{third}, first, []int{0, 0, 1, 1}, 0},
		{[]box{first, fourth}, third, []int{1, 1, 1, 2}, 0},
		// In the wrong order.
		{[]box{second, first}, fourth, []int{0, 1, 1, 1}, 0},
		{[]box{third, second, first}, fourth, []int{0, 0, 1, 1}, 0},
		{[]box{first, first}, fourth, []int{1, 1, 1, 1}, 0},
		{nil, third, []int{0, 0, 0}, 3},
	}
	for _, r := range rows {
		l := withFinish(withGates(bareLevel(), r.gates...), r.finish)
		s := state{}
		for index, gate := range r.want {
			tick := index + 1
			want := state{Tick: tick, At: vec{X: 100 * tick * (tick + 1)}, Fast: vec{X: 200 * tick}, Gate: gate, Done: tick == r.done}
			checkStep(t, l, s, drive(), want, true)
			s = stepOf(t, l, s, drive())
		}
	}
}

// A gate and the finish count where a wall has stopped the car.
func TestAGateAtAWall(t *testing.T) {
	l := withWalls(withGates(bareLevel(), boxOf(300, 95, 300, 95)), boxOf(1000, -1000, 2000, 1000))
	l = withFinish(l, boxOf(300, 0, 301, 100))
	s := withFast(carAt(300, 0), 400, 100)
	checkStep(t, l, s, input{}, state{Tick: 1, At: vec{X: 300, Y: 95}, Fast: vec{X: -190, Y: 95}, Gate: 1, Done: true}, true)
	checkStep(t, l, s, pause(), withTick(s, 1), true)
}

func TestEndedRunsStay(t *testing.T) {
	for _, l := range engineLevels() {
		for _, tick := range []int{0, 1, l.Ticks - 1, l.Ticks} {
			s := state{Tick: tick, At: l.Start, Fast: vec{X: -1200, Y: 1600}, Turn: 15}
			for _, x := range inputsByCode() {
				done := withEnd(withGate(s, len(l.Gates)), true, false)
				checkStep(t, l, done, x, done, true)
				for gate := range len(l.Gates) + 1 {
					over := withEnd(withGate(s, gate), false, true)
					checkStep(t, l, over, x, over, true)
				}
			}
		}
	}
}

func TestTheLastTick(t *testing.T) {
	for ticks := 1; ticks <= maxTicks; ticks++ {
		l := withTicks(openLevel(), ticks)
		for _, x := range inputsByCode() {
			s := withFast(withTick(carAt(-70, 80), ticks), 30, 40)
			checkStep(t, l, s, x, state{}, false)
			ahead := withTick(s, ticks-1)
			want, _ := stepByDefinition(l, ahead, x)
			if want.Tick != ticks {
				t.Errorf("the tick behind %v is %d", ahead, want.Tick)
			}
			checkStep(t, l, ahead, x, want, true)
		}
	}
	// In the last tick the car may still finish, or leave the range.
	l := withTicks(withFinish(bareLevel(), boxOf(190, 0, 200, 0)), 5)
	checkStep(t, l, withTick(state{}, 4), drive(), state{Tick: 5, At: vec{X: 200}, Fast: vec{X: 200}, Done: true}, true)
	s := withFast(withTick(carAt(0, maxCoordinate), 4), 0, 60)
	checkStep(t, l, s, input{}, withEnd(withTick(s, 5), false, true), true)
}

func TestEngineStepByDefinition(t *testing.T) {
	seen := map[string]int{}
	eachState(func(l level, s state) {
		checkState(t, l, s, true)
		for _, x := range inputsByCode() {
			want, ok := stepByDefinition(l, s, x)
			checkStep(t, l, s, x, want, ok)
			seen[kindOfTick(s, x, want, ok)]++
		}
	})
	// The draw has all kinds of ticks.
	for _, kind := range []string{"ended", "late", "pause", "over", "done", "gate", "x", "y", "both", "free"} {
		if seen[kind] < 20 {
			t.Errorf("only %d ticks are of the kind %q", seen[kind], kind)
		}
	}
}

// kindOfTick names what happens in a tick.
func kindOfTick(s state, x input, after state, ok bool) string {
	speed := speedAfter(s, after.Turn, x.Power)
	hitX, hitY := after.Fast.X != speed.X, after.Fast.Y != speed.Y
	switch {
	case !ok:
		return "late"
	case !goesOn(s):
		return "ended"
	case x.Pause:
		return "pause"
	case after.Over:
		return "over"
	case after.Done:
		return "done"
	case after.Gate > s.Gate:
		return "gate"
	case hitX && hitY:
		return "both"
	case hitX:
		return "x"
	case hitY:
		return "y"
	}
	return "free"
}

func TestStatesByDefinition(t *testing.T) {
	draw := rand.New(rand.NewSource(15))
	valid := 0
	for _, l := range engineLevels() {
		for _, s := range drawnStates(l, draw, 60) {
			s.Tick += draw.Intn(5) - 2
			s.Gate += draw.Intn(3) - 1
			s.Fast.X += draw.Intn(5) - 2
			s.At.Y += draw.Intn(601) - 300
			s.Done = s.Done || draw.Intn(4) == 0
			want := stateByDefinition(l, s)
			if want {
				valid++
			}
			checkState(t, l, s, want)
			if !want {
				checkStep(t, l, s, input{}, state{}, false)
			}
		}
	}
	if valid < 1000 {
		t.Errorf("only %d of the drawn states are valid", valid)
	}
}

func TestEngineHashRows(t *testing.T) {
	last := state{Tick: 60, At: vec{X: 1000000, Y: -1000000}, Fast: vec{X: -1200, Y: 1600}, Turn: 15, Gate: 3}
	checkStateHash(t, state{}, 955088)
	checkStateHash(t, last, 821328)
	checkStateHash(t, withEnd(last, true, false), 821329)
	checkStateHash(t, withEnd(last, false, true), 821330)
	checkStateHash(t, state{Tick: 7, At: vec{X: -5, Y: 8}, Fast: vec{X: -1, Y: 2}, Turn: 3, Gate: 1}, 636827)
	checkStateHash(t, state{Tick: 1, At: vec{X: 200}, Fast: vec{X: 200}}, 233340)
}

func TestEngineHashByDefinition(t *testing.T) {
	eachState(func(l level, s state) {
		ending := 0
		if s.Done {
			ending = 1
		}
		if s.Over {
			ending = 2
		}
		want := hashByDefinition(s.Tick, s.At.X, s.At.Y, s.Fast.X, s.Fast.Y, s.Turn, s.Gate, ending)
		checkStateHash(t, s, want)
		checkStateHash(t, s, impl.HashInts([]int{s.Tick, s.At.X, s.At.Y, s.Fast.X, s.Fast.Y, s.Turn, s.Gate, ending}))
	})
}

func TestEngineSpeedRows(t *testing.T) {
	rows := []struct{ x, y, want int }{
		{0, 0, 0}, {3, 4, 5}, {-3, -4, 5}, {1, 1, 1}, {0, -2000, 2000}, {2000, 63, 2000}, {-2000, -63, 2000},
		{1414, -1414, 1999}, {1414, 1415, 2000}, {1200, 1600, 2000}, {-1799, 0, 1799},
	}
	for _, r := range rows {
		checkSpeed(t, withFast(state{}, r.x, r.y), r.want, true)
		checkSpeed(t, withEnd(withFast(carAt(70, 80), r.x, r.y), true, false), r.want, true)
		checkSpeed(t, withEnd(withFast(withTurn(state{}, 9), r.x, r.y), false, true), r.want, true)
	}
}

func TestTheEngineLeavesItsArguments(t *testing.T) {
	draw := rand.New(rand.NewSource(16))
	for _, l := range append(engineLevels(), invalidLevels()...) {
		// What is behind the slices in memory is not touched either.
		walls := slices.Concat(l.Walls, []box{boxOf(1, 2, 3, 4)})
		gates := slices.Concat(l.Gates, []box{boxOf(11, 12, 13, 14)})
		part := withWalls(withGates(l, gates[:len(l.Gates)]...), walls[:len(l.Walls)]...)
		wallsBefore, gatesBefore := slices.Clone(walls), slices.Clone(gates)
		list := []state{{}, {At: l.Start, Fast: vec{X: 900, Y: -900}}}
		if impl.LevelValid(l) {
			list = drawnStates(l, draw, 3)
		}
		impl.EngineStart(part)
		for _, s := range list {
			impl.EngineValid(part, s)
			for _, x := range inputsByCode() {
				impl.EngineStep(part, s, x)
			}
		}
		if !slices.Equal(walls, wallsBefore) || !slices.Equal(gates, gatesBefore) {
			t.Errorf("the walls or the gates of %v were changed", shownLevel(l))
		}
	}
}

// What is behind the end of the walls and the gates is not part of the level.
func TestTheEngineIgnoresWhatIsBehindTheSlices(t *testing.T) {
	walls := []box{pointBox(vec{X: 90000}), boxOf(600, -900, 900, 900)}
	gates := []box{boxOf(0, 0, 200, 0), boxOf(0, 0, 900, 0)}
	l := withWalls(withGates(openLevel(), gates[:1]...), walls[:1]...)
	s := stepOf(t, l, state{}, drive())
	checkStep(t, l, s, drive(), state{Tick: 2, At: vec{X: 600}, Fast: vec{X: 400}, Gate: 1}, true)
	checkStep(t, withGates(l, gates[:0]...), withFast(state{}, 400, 0), input{}, state{Tick: 1, At: vec{X: 380}, Fast: vec{X: 380}}, true)
}

func TestTheEngineKeepsNoState(t *testing.T) {
	l, blocked := openLevel(), withWalls(openLevel(), boxOf(600, -900, 900, 900))
	s := withFast(state{}, 1000, 0)
	for range 3 {
		checkStep(t, l, s, input{}, state{Tick: 1, At: vec{X: 950}, Fast: vec{X: 950}}, true)
		checkStep(t, blocked, s, input{}, state{Tick: 1, Fast: vec{X: -475}}, true)
		checkStep(t, l, s, pause(), withTick(s, 1), true)
		checkStart(t, l, state{}, true)
		checkSpeed(t, s, 1000, true)
	}
}
