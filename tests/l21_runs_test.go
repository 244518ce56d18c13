package tests

import (
	"math"
	"math/rand"
	"runtime"
	"slices"
	"sync"
	"testing"
	"time"

	"loop.example/replayverifier/impl"
)

// drives returns so many inputs that speed up straight ahead.
func drives(many int) []input {
	return slices.Repeat([]input{drive()}, many)
}

// pauses returns so many inputs that pause.
func pauses(many int) []input {
	return slices.Repeat([]input{pause()}, many)
}

// rolls returns so many inputs that roll.
func rolls(many int) []input {
	return make([]input, many)
}

// laneAt returns where a car is after so many drives from the place 0: it gets
// faster by 200 with each of them, up to 2000.
func laneAt(many int) vec {
	faster := min(many, 10)
	return vec{X: 100*faster*(faster+1) + 2000*(many-faster)}
}

// laneLevel returns a level without walls and gates, with a finish that a car
// reaches after so many drives.
func laneLevel(finish int) level {
	return withFinish(bareLevel(), pointBox(laneAt(finish)))
}

// corridorLevel returns a level in which the car keeps hitting the walls on both
// of its sides.
func corridorLevel() level {
	l := withWalls(bareLevel(), boxOf(-9000, 560, 90000, 700), boxOf(-9000, -700, 90000, -560), boxOf(-900, -600, -700, 600))
	return withFinish(withGates(l, boxOf(1000, -90, 2500, 90)), boxOf(5000, -90, 90000, 90))
}

// edgeLevel returns a level from whose start a car leaves the range with its
// third drive.
func edgeLevel() level {
	return withStart(openLevel(), vec{X: maxCoordinate - 900, Y: 600 - maxCoordinate})
}

// wideLevel returns a level whose gates and finish can hardly be missed.
func wideLevel() level {
	l := withGates(bareLevel(), boxOf(500, -4000, 3000, 4000), boxOf(1500, -6000, 6000, 6000), boxOf(4000, -9000, 9000, 9000))
	return withWalls(withFinish(l, boxOf(7000, -9500, 30000, 9500)), boxOf(-2000, 2000, 9000, 3000), pointBox(vec{X: 3000, Y: -1500}))
}

// raceLevels returns levels in which many runs finish, leave the range or hit
// walls, with all kinds of ticks and bans.
func raceLevels() []level {
	all := boxOf(-maxCoordinate, -maxCoordinate, maxCoordinate, maxCoordinate)
	near := withStart(withFinish(bareLevel(), all), vec{X: maxCoordinate - 150, Y: -maxCoordinate})
	var list []level
	for _, l := range []level{wideLevel(), corridorLevel(), edgeLevel(), roadLevel(), laneLevel(7), withFinish(bareLevel(), all), withGates(near, all, all, all)} {
		for bans := range 4 {
			for _, ticks := range []int{4, 20, maxTicks} {
				list = append(list, withBans(withTicks(l, ticks), bans))
			}
		}
	}
	return list
}

// drawnDrive returns the inputs of a run, most of which speed up.
func drawnDrive(l level, draw *rand.Rand) []input {
	many := l.Ticks
	if draw.Intn(2) == 0 {
		many = draw.Intn(l.Ticks + 1)
	}
	list := []input{}
	for index := range many {
		x := driverInput(draw)
		if index == 0 && draw.Intn(4) == 0 {
			x = pause()
		}
		list = append(list, x)
		if !legalAt(l, list, index) {
			list[index] = input{}
		}
	}
	return list
}

// upToTheFinish returns the inputs of a run up to the one with which it
// finishes, or all of them if it does not.
func upToTheFinish(l level, list []input) []input {
	for n, s := range statesByDefinition(l, list) {
		if s.Done {
			return list[:n]
		}
	}
	return list
}

// eachDrive calls check with runs in all kinds of levels.
func eachDrive(check func(l level, list []input)) {
	draw := rand.New(rand.NewSource(21))
	for index, l := range engineLevels() {
		if index%3 == 0 {
			check(l, drawnDrive(l, draw))
		}
	}
	for _, l := range raceLevels() {
		check(l, drives(l.Ticks))
		check(l, upToTheFinish(l, drives(l.Ticks)))
		for range 3 {
			list := drawnDrive(l, draw)
			check(l, list)
			check(l, upToTheFinish(l, list))
		}
	}
}

// statesByDefinition returns the states of a run after 0, 1 and so on inputs.
func statesByDefinition(l level, list []input) []state {
	s := state{At: l.Start}
	states := []state{s}
	for _, x := range list {
		s, _ = stepByDefinition(l, s, x)
		states = append(states, s)
	}
	return states
}

// endOf returns the number by which the hash of a state ends.
func endOf(s state) int {
	switch {
	case s.Done:
		return 1
	case s.Over:
		return 2
	}
	return 0
}

func stateHashByDefinition(s state) int {
	return hashByDefinition(s.Tick, s.At.X, s.At.Y, s.Fast.X, s.Fast.Y, s.Turn, s.Gate, endOf(s))
}

// outsideCounts returns numbers of inputs that a list of this length does not
// have.
func outsideCounts(length int) []int {
	return append(outsideOf(0, length), -5, -60, length+5, length+60)
}

func checkRunTo(t *testing.T, l level, list []input, n int, want state, wantOk bool) {
	t.Helper()
	if got, ok := impl.RunTo(l, list, n); got != want || ok != wantOk {
		t.Errorf("RunTo(%v, %s, %d) = %v, %v, want %v, %v", shownLevel(l), shownInputs(list), n, got, ok, want, wantOk)
	}
}

func checkScore(t *testing.T, l level, list []input, want int) {
	t.Helper()
	if got := impl.RunScore(l, list); got != want {
		t.Errorf("RunScore(%v, %s) = %d, want %d", shownLevel(l), shownInputs(list), got, want)
	}
}

func checkHashes(t *testing.T, l level, list []input, want []int) {
	t.Helper()
	if got := impl.RunHashes(l, list); !slices.Equal(got, want) {
		t.Errorf("RunHashes(%v, %s) = %v, want %v", shownLevel(l), shownInputs(list), got, want)
	}
}

func checkPath(t *testing.T, l level, list []input, want []vec) {
	t.Helper()
	if got := impl.RunPath(l, list); !slices.Equal(got, want) {
		t.Errorf("RunPath(%v, %s) = %v, want %v", shownLevel(l), shownInputs(list), got, want)
	}
}

// checkRun checks all functions with a run, and numbers of inputs that it does
// not have.
func checkRun(t *testing.T, l level, list []input) {
	t.Helper()
	var hashes []int
	var path []vec
	score := -1
	for n, s := range statesByDefinition(l, list) {
		checkRunTo(t, l, list, n, s, true)
		path = append(path, s.At)
		if n > 0 && n%5 == 0 {
			hashes = append(hashes, stateHashByDefinition(s))
		}
		if s.Done && score == -1 {
			score = n
		}
	}
	checkPath(t, l, list, path)
	checkHashes(t, l, list, hashes)
	checkScore(t, l, list, score)
	for _, n := range outsideCounts(len(list)) {
		checkRunTo(t, l, list, n, state{}, false)
	}
}

// checkNoRun checks all functions with a list that is no run.
func checkNoRun(t *testing.T, l level, list []input) {
	t.Helper()
	for _, n := range []int{0, 1, 2, len(list) / 2, len(list) - 1, len(list), len(list) + 1, -1, math.MinInt, math.MaxInt} {
		checkRunTo(t, l, list, n, state{}, false)
	}
	checkScore(t, l, list, -1)
	checkHashes(t, l, list, nil)
	checkPath(t, l, list, nil)
}

// runTo returns the state of RunTo where it must not fail.
func runTo(t *testing.T, l level, list []input, n int) state {
	t.Helper()
	s, ok := impl.RunTo(l, list, n)
	if !ok {
		t.Errorf("RunTo(%v, %s, %d) fails", shownLevel(l), shownInputs(list), n)
	}
	return s
}

// checkNoneRunning checks that there are no more goroutines than before.
func checkNoneRunning(t *testing.T, before int) {
	t.Helper()
	// The last step of a goroutine may come a little later than its last word.
	for range 200 {
		if runtime.NumGoroutine() <= before {
			return
		}
		time.Sleep(time.Millisecond)
	}
	t.Errorf("there were %d goroutines, now there are %d", before, runtime.NumGoroutine())
}

func TestConstantsOfChapter21(t *testing.T) {
	if impl.Every != 5 {
		t.Errorf("Every is %d", impl.Every)
	}
}

func TestRunsByDefinition(t *testing.T) {
	seen := map[string]int{}
	eachDrive(func(l level, list []input) {
		checkRun(t, l, list)
		for _, kind := range kindsOfRun(l, list) {
			seen[kind]++
		}
	})
	// The draw has all kinds of runs.
	for _, kind := range []string{"finishes early", "finishes late", "leaves early", "goes on", "all ticks", "hits a wall", "pauses ahead", "pauses", "pauses behind"} {
		if seen[kind] < 20 {
			t.Errorf("only %d runs are of the kind %q", seen[kind], kind)
		}
	}
}

// kindsOfRun names what happens in a run.
func kindsOfRun(l level, list []input) []string {
	var kinds []string
	states := statesByDefinition(l, list)
	last := states[len(list)]
	switch {
	case last.Done && last.Tick < len(list):
		kinds = append(kinds, "finishes early")
	case last.Done:
		kinds = append(kinds, "finishes late")
	case last.Over && last.Tick < len(list):
		kinds = append(kinds, "leaves early")
	case !last.Over:
		kinds = append(kinds, "goes on")
	}
	if len(list) == l.Ticks {
		kinds = append(kinds, "all ticks")
	}
	if !slices.Equal(states, statesByDefinition(withWalls(l), list)) {
		kinds = append(kinds, "hits a wall")
	}
	for index, x := range list {
		switch {
		case x.Pause && index == 0:
			kinds = append(kinds, "pauses ahead")
		case x.Pause && index < last.Tick:
			kinds = append(kinds, "pauses")
		case x.Pause:
			kinds = append(kinds, "pauses behind")
		}
	}
	return kinds
}

// busyRun returns the inputs of a run on the road that hits the wall, pauses
// three times and finishes with its 12th input.
func busyRun() []input {
	push := func(side int) input { return input{Steer: side, Power: powerGo} }
	return []input{
		drive(), push(1), push(1), pause(), push(1), drive(), drive(), drive(), pause(), brake(), brake(),
		push(-1), push(-1), push(-1), push(-1), {}, push(-1), {}, drive(), {}, pause(),
	}
}

func TestRunRows(t *testing.T) {
	road := withBans(withTicks(roadLevel(), maxTicks), 0)
	rows := []struct {
		l      level
		list   []input
		path   []vec
		hashes []int
		score  int
		last   state
	}{
		{
			openLevel(), drives(20),
			[]vec{
				{}, {X: 200}, {X: 600}, {X: 1200}, {X: 2000}, {X: 3000}, {X: 4200}, {X: 5600}, {X: 7200}, {X: 9000}, {X: 11000},
				{X: 13000}, {X: 15000}, {X: 17000}, {X: 19000}, {X: 21000}, {X: 23000}, {X: 25000}, {X: 27000}, {X: 29000}, {X: 31000},
			},
			[]int{968954, 39305, 878975, 718642}, -1,
			state{Tick: 20, At: vec{X: 31000}, Fast: vec{X: 2000}},
		},
		{
			laneLevel(5), drives(12),
			slices.Concat([]vec{{}, {X: 200}, {X: 600}, {X: 1200}, {X: 2000}}, slices.Repeat([]vec{{X: 3000}}, 8)),
			[]int{968955, 968955}, 5,
			state{Tick: 5, At: vec{X: 3000}, Fast: vec{X: 1000}, Done: true},
		},
		{
			roadLevel(), append(drives(7), rolls(5)...),
			slices.Concat([]vec{{}, {X: 200}, {X: 600}, {X: 1200}, {X: 2000}, {X: 3000}, {X: 4200}}, slices.Repeat([]vec{{X: 5600}}, 6)),
			[]int{977145, 318507}, 7,
			state{Tick: 7, At: vec{X: 5600}, Fast: vec{X: 1400}, Gate: 1, Done: true},
		},
		{
			road, busyRun(),
			slices.Concat([]vec{
				{}, {X: 200}, {X: 584, Y: 76}, {X: 1109, Y: 293}, {X: 1109, Y: 293}, {X: 1710, Y: 694}, {X: 2387, Y: 1279}, {X: 3140, Y: 1279},
				{X: 3969, Y: 1079}, {X: 3969, Y: 1079}, {X: 4549, Y: 939}, {X: 4955, Y: 841},
			}, slices.Repeat([]vec{{X: 5502, Y: 884}}, 10)),
			[]int{199549, 402610, 670333, 670333}, 12,
			state{Tick: 12, At: vec{X: 5502, Y: 884}, Fast: vec{X: 547, Y: 43}, Turn: 2, Gate: 1, Done: true},
		},
		{
			edgeLevel(), drives(11),
			slices.Concat([]vec{{X: 999100, Y: -999400}, {X: 999300, Y: -999400}}, slices.Repeat([]vec{{X: 999700, Y: -999400}}, 10)),
			[]int{247243, 247243}, -1,
			state{Tick: 3, At: vec{X: 999700, Y: -999400}, Fast: vec{X: 400}, Over: true},
		},
	}
	for _, r := range rows {
		checkPath(t, r.l, r.list, r.path)
		checkHashes(t, r.l, r.list, r.hashes)
		checkScore(t, r.l, r.list, r.score)
		checkRunTo(t, r.l, r.list, len(r.list), r.last, true)
		checkRun(t, r.l, r.list)
	}
}

func TestRunsWithoutInputs(t *testing.T) {
	// What is behind the end of a slice is not part of the run.
	behind := append(drives(2), input{Steer: 2})
	for _, l := range engineLevels() {
		for _, empty := range [][]input{nil, {}, make([]input, 0, 9), behind[:0]} {
			checkRunTo(t, l, empty, 0, state{At: l.Start}, true)
			checkRunTo(t, l, empty, 1, state{}, false)
			checkRunTo(t, l, empty, -1, state{}, false)
			checkScore(t, l, empty, -1)
			checkHashes(t, l, empty, nil)
			checkPath(t, l, empty, []vec{l.Start})
		}
	}
}

func TestWhatIsBehindTheInputsIsIgnored(t *testing.T) {
	list := append(drives(9), input{Steer: 2}, pause())
	for many := range 10 {
		checkRun(t, openLevel(), list[:many])
	}
	checkHashes(t, openLevel(), list[:9], []int{968954})
	checkNoRun(t, openLevel(), list[:10])
}

// The finish is at the first tick, at the last one, and at all in between.
func TestTheFinishAtEachTick(t *testing.T) {
	for _, ticks := range []int{1, 2, 4, 5, 6, 10, 20, maxTicks} {
		for finish := 1; finish <= ticks; finish++ {
			l := withTicks(laneLevel(finish), ticks)
			for _, many := range []int{0, 1, finish - 1, finish, finish + 1, ticks} {
				if many > ticks {
					continue
				}
				want := -1
				if many >= finish {
					want = finish
				}
				checkScore(t, l, drives(many), want)
				checkRun(t, l, drives(many))
			}
			checkNoRun(t, l, drives(ticks+1))
		}
	}
}

// The gates are passed one after the other, also where all of them are at the
// same place.
func TestTheNumbersOfGates(t *testing.T) {
	all := boxOf(-maxCoordinate, -maxCoordinate, maxCoordinate, maxCoordinate)
	for gates := range maxGates + 1 {
		l := withGates(withFinish(bareLevel(), all), slices.Repeat([]box{all}, gates)...)
		for many := range 9 {
			want := -1
			if first := max(gates, 1); many >= first {
				want = first
			}
			checkScore(t, l, drives(many), want)
			checkScore(t, l, rolls(many), want)
			checkRun(t, l, drives(many))
		}
	}
}

func TestGatesAndScores(t *testing.T) {
	at := func(many int) box { return pointBox(laneAt(many)) }
	rows := []struct {
		gates  []box
		finish int
		want   int
	}{
		{nil, 6, 6}, {[]box{at(1)}, 6, 6}, {[]box{at(6)}, 6, 6}, {[]box{at(1), at(6)}, 6, 6}, {[]box{at(2), at(3), at(5)}, 6, 6},
		{[]box{at(4), at(5), at(6)}, 6, 6}, {[]box{at(1), at(2), at(3)}, 11, 11}, {[]box{at(1), at(2), at(20)}, 20, 20},
		// One gate is behind the finish, was passed too early, or is missed.
		{[]box{at(7)}, 6, -1}, {[]box{at(2), at(1)}, 6, -1}, {[]box{at(1), at(1)}, 6, -1}, {[]box{at(1), pointBox(vec{X: 700}), at(3)}, 6, -1},
		{[]box{at(1), at(2), at(7)}, 6, -1}, {[]box{pointBox(vec{})}, 6, -1},
	}
	for _, r := range rows {
		l := withGates(laneLevel(r.finish), r.gates...)
		checkScore(t, l, drives(20), r.want)
		checkRun(t, l, drives(20))
		if r.want > 0 {
			checkScore(t, l, drives(r.want), r.want)
			checkScore(t, l, drives(r.want-1), -1)
		}
	}
}

func TestTheNumberOfHashes(t *testing.T) {
	rows := []struct{ inputs, hashes int }{
		{0, 0}, {1, 0}, {4, 0}, {5, 1}, {6, 1}, {9, 1}, {10, 2}, {11, 2}, {14, 2}, {15, 3}, {16, 3}, {20, 4}, {29, 5}, {30, 6}, {55, 11}, {59, 11}, {60, 12},
	}
	for _, r := range rows {
		for _, l := range []level{openLevel(), laneLevel(3), edgeLevel(), corridorLevel()} {
			l = withTicks(l, maxTicks)
			for _, list := range [][]input{drives(r.inputs), rolls(r.inputs)} {
				if got := impl.RunHashes(l, list); len(got) != r.hashes {
					t.Errorf("RunHashes(%v, %s) = %v, want %d of them", l, shownInputs(list), got, r.hashes)
				}
				checkRun(t, l, list)
			}
		}
	}
}

func TestPausesInRuns(t *testing.T) {
	l := laneLevel(5)
	here := withFinish(bareLevel(), pointBox(vec{}))
	rows := []struct {
		l    level
		list []input
		want int
	}{
		{l, slices.Concat(pauses(1), drives(5)), 6},
		{l, slices.Concat(pauses(3), drives(5)), 8},
		{l, slices.Concat(pauses(3), drives(4)), -1},
		{l, slices.Concat(drives(3), pauses(1), drives(2)), 6},
		{l, slices.Concat(drives(1), pauses(1), drives(1), pauses(1), drives(1), pauses(1), drives(2)), 8},
		{l, slices.Concat(drives(4), pauses(3), drives(1)), 8},
		{l, slices.Concat(drives(4), pauses(3)), -1},
		{l, slices.Concat(pauses(1), drives(4), pauses(1), drives(1), pauses(1)), 7},
		// Behind the finish, a pause changes nothing.
		{l, slices.Concat(drives(5), pauses(1)), 5},
		{l, slices.Concat(drives(5), pauses(3), drives(12)), 5},
		{l, slices.Concat(pauses(1), drives(5), rolls(2), pauses(2)), 6},
		// A pause passes neither a gate nor the finish.
		{here, pauses(1), -1}, {here, pauses(3), -1}, {here, slices.Concat(pauses(1), rolls(1)), 2}, {here, slices.Concat(rolls(1), pauses(1)), 1},
		{withGates(here, pointBox(vec{})), slices.Concat(pauses(2), rolls(1), pauses(1)), 3},
		{withGates(here, pointBox(vec{}), pointBox(vec{})), slices.Concat(rolls(1), pauses(1), rolls(1)), 3},
		{edgeLevel(), slices.Concat(pauses(1), drives(3), pauses(2), drives(1)), -1},
		// The last tick.
		{withTicks(l, 8), slices.Concat(pauses(3), drives(5)), 8},
		{withTicks(l, 5), drives(5), 5},
	}
	for _, r := range rows {
		checkScore(t, r.l, r.list, r.want)
		checkRun(t, r.l, r.list)
		if countPauses(r.list) > 0 {
			checkNoRun(t, withBans(r.l, banPause), r.list)
			checkNoRun(t, withBans(r.l, banPause+banBrake), r.list)
			checkRun(t, withBans(r.l, banBrake), r.list)
		}
	}
}

// One pause more than there may be, wherever it is.
func TestTooManyPausesInRuns(t *testing.T) {
	l := laneLevel(5)
	for _, list := range [][]input{
		pauses(4), slices.Concat(pauses(4), drives(5)), slices.Concat(pauses(3), drives(5), pauses(1)),
		slices.Concat(drives(5), pauses(4)), slices.Concat(pauses(1), drives(2), pauses(1), drives(3), pauses(2), drives(2)),
	} {
		checkNoRun(t, l, list)
		index := legalByDefinition(l, list)
		checkRun(t, l, list[:index])
	}
}

func TestLeavingTheRangeInRuns(t *testing.T) {
	end := withStart(bareLevel(), vec{X: maxCoordinate, Y: 5})
	first := state{Tick: 1, At: end.Start, Over: true}
	for _, ticks := range []int{1, 2, 5, 20} {
		l := withTicks(withFinish(end, pointBox(end.Start)), ticks)
		for many := 1; many <= ticks; many++ {
			checkRunTo(t, l, drives(many), many, first, true)
			checkScore(t, l, drives(many), -1)
			checkPath(t, l, drives(many), slices.Repeat([]vec{end.Start}, many+1))
			checkRun(t, l, drives(many))
		}
	}
	// The car has passed the gate ahead of that, and never gets to the finish.
	l := withFinish(withGates(edgeLevel(), boxOf(999300, -999400, 999300, -999400)), boxOf(999800, -maxCoordinate, maxCoordinate, maxCoordinate))
	want := state{Tick: 3, At: vec{X: 999700, Y: -999400}, Fast: vec{X: 400}, Gate: 1, Over: true}
	for many := 3; many <= l.Ticks; many++ {
		checkRunTo(t, l, drives(many), many, want, true)
		checkRunTo(t, l, slices.Concat(drives(3), rolls(many-3)), many, want, true)
	}
	checkRun(t, l, slices.Concat(drives(2), pauses(1), drives(1), []input{steer(-1), pause(), steer(1), {}, pause()}))
	// With brakes, it stays.
	checkRun(t, l, slices.Concat(drives(2), slices.Repeat([]input{brake()}, 18)))
}

// Whatever is behind the finish, the state stays as it is.
func TestInputsBehindTheEnd(t *testing.T) {
	for _, l := range []level{laneLevel(5), withStart(openLevel(), vec{X: maxCoordinate - 2500}), laneLevel(1)} {
		end := statesByDefinition(l, drives(5))[5]
		if goesOn(end) {
			t.Errorf("five drives in %v lead to %v", l, end)
		}
		for _, x := range append(inputsByCode(), drive()) {
			behind := slices.Repeat([]input{x, {}}, 3)
			list := slices.Concat(drives(5), behind)
			for n := 5; n <= len(list); n++ {
				checkRunTo(t, l, list, n, end, true)
			}
			checkRun(t, l, list)
		}
	}
}

// What is behind the finish has to be legal, too.
func TestIllegalInputsBehindTheEnd(t *testing.T) {
	for _, l := range []level{laneLevel(5), withStart(openLevel(), vec{X: maxCoordinate - 2500})} {
		for _, x := range invalidInputs() {
			checkNoRun(t, l, append(drives(5), x))
			checkNoRun(t, l, slices.Concat(drives(5), rolls(7), []input{x}, rolls(7)))
		}
		checkNoRun(t, l, append(drives(5), steer(-1), steer(1)))
		checkNoRun(t, withBans(l, banBrake), append(drives(5), brake()))
		checkNoRun(t, l, drives(l.Ticks+1))
		checkRun(t, l, drives(l.Ticks))
	}
}

func TestRunsInInvalidLevels(t *testing.T) {
	for _, l := range append(invalidLevels(), level{}) {
		for _, list := range [][]input{nil, {}, drives(1), rolls(5), {{Steer: 2}}} {
			checkNoRun(t, l, list)
		}
	}
}

func TestIllegalInputsInRuns(t *testing.T) {
	for _, l := range []level{withTicks(laneLevel(9), 6), withBans(wideLevel(), 3), withBans(corridorLevel(), 1), edgeLevel()} {
		for index := range l.Ticks {
			for _, x := range invalidInputs() {
				list := drives(l.Ticks)
				list[index] = x
				checkNoRun(t, l, list)
			}
			for _, x := range []input{brake(), pause(), steer(1)} {
				list := drives(l.Ticks)
				list[index] = x
				if bannedByDefinition(l.Bans, x) {
					checkNoRun(t, l, list)
				} else {
					checkRun(t, l, list)
				}
			}
			if index > 0 {
				list := drives(l.Ticks)
				list[index-1], list[index] = steer(1), input{Steer: -1, Power: powerGo}
				checkNoRun(t, l, list)
				checkRun(t, l, list[:index])
			}
		}
	}
}

// An input that is not legal makes a list no run, even if it is not among the
// first inputs that are asked for.
func TestRunToAheadOfAnIllegalInput(t *testing.T) {
	list := append(drives(10), input{Power: 3})
	for n := range 11 {
		checkRunTo(t, openLevel(), list, n, state{}, false)
		checkRunTo(t, openLevel(), list[:10], n, statesByDefinition(openLevel(), list[:10])[n], true)
	}
}

func TestTheNumberOfInputs(t *testing.T) {
	for ticks := 1; ticks <= maxTicks; ticks++ {
		for _, base := range []level{openLevel(), laneLevel(1), edgeLevel()} {
			l := withTicks(base, ticks)
			checkRun(t, l, drives(ticks))
			checkRun(t, l, rolls(ticks))
			for _, more := range []int{1, 2, 256} {
				checkNoRun(t, l, drives(ticks+more))
				checkNoRun(t, l, rolls(ticks+more))
			}
		}
	}
	checkNoRun(t, openLevel(), rolls(300000))
}

func TestRunsAtTheirLastTick(t *testing.T) {
	last := withTicks(laneLevel(20), 20)
	checkScore(t, last, drives(20), 20)
	checkScore(t, last, drives(19), -1)
	checkRunTo(t, last, drives(20), 20, state{Tick: 20, At: laneAt(20), Fast: vec{X: 2000}, Done: true}, true)
	// Too late by one tick.
	late := withTicks(laneLevel(21), 20)
	checkScore(t, late, drives(20), -1)
	checkNoRun(t, late, drives(21))
	checkRunTo(t, late, drives(20), 20, state{Tick: 20, At: laneAt(20), Fast: vec{X: 2000}}, true)
	longest := withTicks(laneLevel(maxTicks), maxTicks)
	checkScore(t, longest, drives(maxTicks), maxTicks)
	checkScore(t, longest, drives(maxTicks-1), -1)
}

func TestRunsOfAllShortLists(t *testing.T) {
	here := withFinish(bareLevel(), boxOf(190, -10, 600, 90))
	for bans := range 4 {
		for _, base := range []level{here, withGates(here, pointBox(vec{X: 200})), withWalls(here, boxOf(800, -900, 900, 900)), edgeLevel()} {
			l := withBans(withTicks(base, 3), bans)
			eachList(append(inputsByCode(), steer(2)), 3, func(list []input) {
				if legalByDefinition(l, list) == -1 {
					checkRun(t, l, list)
				} else {
					checkNoRun(t, l, list)
				}
			})
		}
	}
}

func TestRunsLeaveTheirArguments(t *testing.T) {
	draw := rand.New(rand.NewSource(22))
	for _, l := range slices.Concat(engineLevels(), raceLevels(), invalidLevels()) {
		// What is behind the slices in memory is not touched either.
		walls := slices.Concat(l.Walls, []box{boxOf(1, 2, 3, 4)})
		gates := slices.Concat(l.Gates, []box{boxOf(11, 12, 13, 14)})
		part := withWalls(withGates(l, gates[:len(l.Gates)]...), walls[:len(l.Walls)]...)
		run := drives(7)
		if impl.LevelValid(l) {
			run = drawnDrive(l, draw)
		}
		list := slices.Concat(run, []input{{Steer: 1, Power: powerGo}, pause()})
		wallsBefore, gatesBefore, listBefore := slices.Clone(walls), slices.Clone(gates), slices.Clone(list)
		for n := range len(run) + 1 {
			impl.RunTo(part, list[:len(run)], n)
		}
		impl.RunScore(part, list[:len(run)])
		impl.RunHashes(part, list[:len(run)])
		impl.RunPath(part, list[:len(run)])
		if !slices.Equal(walls, wallsBefore) || !slices.Equal(gates, gatesBefore) {
			t.Errorf("the walls or the gates of %v were changed", shownLevel(l))
		}
		if !slices.Equal(list, listBefore) {
			t.Errorf("%s in %v were changed", shownInputs(listBefore), shownLevel(l))
		}
	}
}

// Neither of two results is changed by the other one, not even behind its end.
func TestRunsGiveNewMemory(t *testing.T) {
	l := withTicks(laneLevel(9), maxTicks)
	list := drives(33)
	hashes, path := impl.RunHashes(l, list), impl.RunPath(l, list)
	hashesBefore, pathBefore := slices.Clone(hashes), slices.Clone(path)
	for range 3 {
		other, otherPath := impl.RunHashes(l, list), impl.RunPath(l, list)
		if !slices.Equal(hashes, hashesBefore) || !slices.Equal(path, pathBefore) {
			t.Error("a later call has changed a result")
		}
		for index := range other[:cap(other)] {
			other[:cap(other)][index] = -7
		}
		for index := range otherPath[:cap(otherPath)] {
			otherPath[:cap(otherPath)][index] = vec{X: -7, Y: -7}
		}
		impl.RunPath(openLevel(), rolls(20))
		impl.RunHashes(openLevel(), rolls(20))
		if !slices.Equal(hashes, hashesBefore) || !slices.Equal(path, pathBefore) {
			t.Error("what is written to one result is found in another one")
		}
	}
	for _, n := range []int{0, 4} {
		empty := append(impl.RunHashes(l, list[:n]), -7)
		checkHashes(t, l, list[:n], nil)
		if !slices.Equal(empty, []int{-7}) {
			t.Errorf("an empty result became %v", empty)
		}
	}
}

func TestRunsKeepNoState(t *testing.T) {
	for range 3 {
		checkScore(t, laneLevel(5), drives(6), 5)
		checkScore(t, openLevel(), drives(6), -1)
		checkNoRun(t, openLevel(), []input{{Steer: 2}})
		checkHashes(t, openLevel(), drives(6), []int{968954})
		checkHashes(t, openLevel(), nil, nil)
		checkRunTo(t, openLevel(), drives(3), 1, state{Tick: 1, At: vec{X: 200}, Fast: vec{X: 200}}, true)
		checkRunTo(t, openLevel(), drives(3), 0, state{}, true)
		checkPath(t, openLevel(), drives(1), []vec{{}, {X: 200}})
		checkRun(t, laneLevel(5), drives(6))
	}
}

// Whoever sends the states of a run has ended once the call returns, also where
// only some of the states are asked for.
func TestRunsLeaveNothingRunning(t *testing.T) {
	before := runtime.NumGoroutine()
	for range 50 {
		for _, l := range []level{laneLevel(2), openLevel(), edgeLevel(), level{}} {
			for _, n := range []int{-1, 0, 1, 7, 19, 20, 21} {
				impl.RunTo(l, drives(20), n)
			}
			impl.RunScore(l, drives(20))
			impl.RunHashes(l, drives(20))
			impl.RunPath(l, drives(20))
		}
	}
	checkNoneRunning(t, before)
}

func TestRunsAtTheSameTime(t *testing.T) {
	road := withBans(withTicks(roadLevel(), maxTicks), 0)
	list := busyRun()
	var group sync.WaitGroup
	for range 8 {
		group.Add(1)
		go func() {
			defer group.Done()
			for range 20 {
				checkRun(t, road, list)
				checkHashes(t, road, list, []int{199549, 402610, 670333, 670333})
				checkNoRun(t, road, append(slices.Clone(list), pause()))
			}
		}()
	}
	group.Wait()
}
