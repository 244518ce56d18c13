package tests

import (
	"fmt"
	"math"
	"math/rand"
	"slices"
	"testing"

	"loop.example/replayverifier/impl"
)

type input = impl.Input

const (
	powerNone  = impl.PowerNone
	powerGo    = impl.PowerGo
	powerBrake = impl.PowerBrake
	maxPauses  = impl.MaxPauses
)

func steer(n int) input { return input{Steer: n} }

func pause() input { return input{Pause: true} }

func brake() input { return input{Power: powerBrake} }

// inputsByCode returns all valid inputs, each at the index that is its code.
func inputsByCode() []input {
	return []input{
		{Steer: -1, Power: 0}, {Steer: 0, Power: 0}, {Steer: 1, Power: 0},
		{Steer: -1, Power: 1}, {Steer: 0, Power: 1}, {Steer: 1, Power: 1},
		{Steer: -1, Power: 2}, {Steer: 0, Power: 2}, {Steer: 1, Power: 2},
		{Pause: true},
	}
}

// drivingInputs returns the valid inputs that neither brake nor pause.
func drivingInputs() []input {
	return inputsByCode()[:6]
}

// busyPauses returns pauses that steer, have power, or both; without the pause,
// each of them is valid.
func busyPauses() []input {
	var list []input
	for _, x := range inputsByCode() {
		x.Pause = true
		if x != pause() {
			list = append(list, x)
		}
	}
	return list
}

// invalidInputs returns inputs whose steering or power is out of range, with and
// without a pause, and pauses that steer or have power.
func invalidInputs() []input {
	list := busyPauses()
	for _, pauses := range []bool{false, true} {
		for _, n := range outsideOf(-1, 1) {
			list = append(list, input{Steer: n, Pause: pauses})
			list = append(list, input{Steer: n, Power: powerGo, Pause: pauses}, input{Steer: n, Power: powerBrake, Pause: pauses})
			list = append(list, input{Steer: n, Power: n, Pause: pauses})
		}
		for _, n := range outsideOf(0, 2) {
			list = append(list, input{Power: n, Pause: pauses})
			list = append(list, input{Steer: 1, Power: n, Pause: pauses}, input{Steer: -1, Power: n, Pause: pauses})
		}
		list = append(list, input{Steer: math.MinInt, Power: math.MaxInt, Pause: pauses}, input{Steer: math.MaxInt, Power: math.MinInt, Pause: pauses})
		// The code would be that of a valid input.
		list = append(list, input{Steer: 2, Power: 0, Pause: pauses}, input{Steer: -4, Power: 1, Pause: pauses}, input{Steer: 5, Power: -1, Pause: pauses})
	}
	return list
}

// noCodes returns numbers that are no codes.
func noCodes() []int {
	return append(outsideOf(0, 9), -3, -9, -10, 11, 12, 99, 265, 1<<32+5, 3*math.MinInt32, math.MaxInt-2, math.MinInt+2)
}

// validByDefinition reports whether x is among the valid inputs.
func validByDefinition(x input) bool {
	return slices.Contains(inputsByCode(), x)
}

// bannedByDefinition reports whether x does what a level with these bans
// forbids.
func bannedByDefinition(bans int, x input) bool {
	return x.Power == 2 && (bans == 1 || bans == 3) || x.Pause && (bans == 2 || bans == 3)
}

// followsByDefinition reports whether x follows before in a valid level with
// these bans.
func followsByDefinition(bans int, before, x input) bool {
	if !validByDefinition(before) || !validByDefinition(x) || bannedByDefinition(bans, x) {
		return false
	}
	return !(before.Steer == -1 && x.Steer == 1) && !(before.Steer == 1 && x.Steer == -1)
}

// legalAt reports whether the input at an index is legal in a valid level, as
// far as those ahead of it are.
func legalAt(l level, list []input, index int) bool {
	var before input
	if index > 0 {
		before = list[index-1]
	}
	return index < l.Ticks && countPauses(list[:index+1]) <= 3 && followsByDefinition(l.Bans, before, list[index])
}

// legalByDefinition returns the index of the first input that is not legal in a
// valid level, or -1.
func legalByDefinition(l level, list []input) int {
	for index := range list {
		if !legalAt(l, list, index) {
			return index
		}
	}
	return -1
}

func countPauses(list []input) int {
	many := 0
	for _, x := range list {
		if x.Pause {
			many++
		}
	}
	return many
}

// inputLevels returns valid levels of all kinds, each with every Bans.
func inputLevels() []level {
	var list []level
	for _, l := range append(baseLevels(), level{Ticks: 1}, level{Ticks: 2}) {
		for bans := range 4 {
			list = append(list, withBans(l, bans))
		}
	}
	return append(list, levels()...)
}

// drawnRuns returns lists of inputs of all lengths up to a little more than the
// level has ticks, most of which are legal for a long time.
func drawnRuns(l level, draw *rand.Rand, many int) [][]input {
	var runs [][]input
	invalid := invalidInputs()
	for range many {
		var list []input
		for range draw.Intn(l.Ticks + 4) {
			x := inputsByCode()[draw.Intn(10)]
			if draw.Intn(200) == 0 {
				x = invalid[draw.Intn(len(invalid))]
			}
			next := append(list, x)
			if legalAt(l, next, len(list)) || draw.Intn(60) == 0 {
				list = next
			} else {
				list = append(list, input{})
			}
		}
		runs = append(runs, list)
	}
	return runs
}

// eachRun calls check with all kinds of runs in valid levels.
func eachRun(check func(l level, list []input)) {
	draw := rand.New(rand.NewSource(12))
	for _, l := range inputLevels() {
		for _, list := range drawnRuns(l, draw, 30) {
			check(l, list)
		}
	}
}

// eachList calls check with all lists of the inputs that have at most so many.
func eachList(inputs []input, most int, check func(list []input)) {
	lists := [][]input{nil}
	for range most + 1 {
		var longer [][]input
		for _, list := range lists {
			check(list)
			for _, x := range inputs {
				longer = append(longer, append(slices.Clone(list), x))
			}
		}
		lists = longer
	}
}

// shownInputs shortens a list for a message.
func shownInputs(list []input) string {
	return fmt.Sprintf("%d inputs %v", len(list), list[:min(len(list), maxTicks+2)])
}

func checkInput(t *testing.T, x input, want bool) {
	t.Helper()
	if got := impl.InputValid(x); got != want {
		t.Errorf("InputValid(%v) = %v", x, got)
	}
}

func checkCode(t *testing.T, x input, want int) {
	t.Helper()
	if got := impl.InputCode(x); got != want {
		t.Errorf("InputCode(%v) = %d, want %d", x, got, want)
	}
}

func checkInputOf(t *testing.T, code int, want input, wantOk bool) {
	t.Helper()
	if got, ok := impl.InputOf(code); got != want || ok != wantOk {
		t.Errorf("InputOf(%d) = %v, %v, want %v, %v", code, got, ok, want, wantOk)
	}
}

func checkFollows(t *testing.T, l level, before, x input, want bool) {
	t.Helper()
	if got := impl.InputFollows(l, before, x); got != want {
		t.Errorf("InputFollows(%v, %v, %v) = %v", shownLevel(l), before, x, got)
	}
}

func checkLegal(t *testing.T, l level, list []input, want int) {
	t.Helper()
	if got := impl.InputsLegal(l, list); got != want {
		t.Errorf("InputsLegal(%v, %s) = %d, want %d", shownLevel(l), shownInputs(list), got, want)
	}
}

func TestConstantsOfChapter12(t *testing.T) {
	if powerNone != 0 || powerGo != 1 || powerBrake != 2 || maxPauses != 3 {
		t.Errorf("PowerNone is %d, PowerGo is %d, PowerBrake is %d, MaxPauses is %d", powerNone, powerGo, powerBrake, maxPauses)
	}
}

func TestInputValid(t *testing.T) {
	for _, x := range inputsByCode() {
		checkInput(t, x, true)
	}
	for _, x := range invalidInputs() {
		checkInput(t, x, false)
	}
}

func TestInputValidNumbers(t *testing.T) {
	for s := -20; s <= 20; s++ {
		for p := -20; p <= 20; p++ {
			checkInput(t, input{Steer: s, Power: p}, -1 <= s && s <= 1 && 0 <= p && p <= 2)
			checkInput(t, input{Steer: s, Power: p, Pause: true}, s == 0 && p == 0)
		}
	}
}

func TestInputCodeRows(t *testing.T) {
	for code, x := range inputsByCode() {
		checkCode(t, x, code)
	}
	for _, x := range invalidInputs() {
		checkCode(t, x, -1)
	}
}

func TestInputOfRows(t *testing.T) {
	for code, x := range inputsByCode() {
		checkInputOf(t, code, x, true)
	}
	checkInputOf(t, -1, input{}, false)
	checkInputOf(t, 10, input{}, false)
	for _, code := range noCodes() {
		checkInputOf(t, code, input{}, false)
	}
}

func TestInputFollowsEveryPair(t *testing.T) {
	for _, l := range inputLevels() {
		for _, before := range inputsByCode() {
			for _, x := range inputsByCode() {
				checkFollows(t, l, before, x, followsByDefinition(l.Bans, before, x))
			}
		}
	}
}

func TestInputFollowsEveryPairOfSteering(t *testing.T) {
	rows := []struct {
		before, x int
		want      bool
	}{
		{-1, -1, true}, {-1, 0, true}, {-1, 1, false},
		{0, -1, true}, {0, 0, true}, {0, 1, true},
		{1, -1, false}, {1, 0, true}, {1, 1, true},
	}
	for _, l := range inputLevels() {
		for _, r := range rows {
			checkFollows(t, l, steer(r.before), steer(r.x), r.want)
			// The power makes no difference, unless it is forbidden.
			checkFollows(t, l, input{Steer: r.before, Power: powerBrake}, input{Steer: r.x, Power: powerGo}, r.want)
			checkFollows(t, withBans(l, 2), input{Steer: r.before, Power: powerGo}, input{Steer: r.x, Power: powerBrake}, r.want)
		}
	}
}

// Only what follows can be forbidden, not what it follows.
func TestInputFollowsAnInputThatIsForbidden(t *testing.T) {
	l := withBans(bareLevel(), 3)
	for _, before := range []input{pause(), brake(), {Steer: 1, Power: powerBrake}, {Steer: -1, Power: powerBrake}} {
		checkFollows(t, l, before, input{}, true)
		checkFollows(t, l, before, input{Steer: before.Steer, Power: powerGo}, true)
		checkFollows(t, l, before, before, false)
	}
}

func TestInputFollowsWithInvalidInputs(t *testing.T) {
	for bans := range 4 {
		l := withBans(roadLevel(), bans)
		for _, bad := range invalidInputs() {
			for _, good := range inputsByCode() {
				checkFollows(t, l, bad, good, false)
				checkFollows(t, l, good, bad, false)
			}
			checkFollows(t, l, bad, bad, false)
		}
	}
}

func TestInputsInInvalidLevels(t *testing.T) {
	for _, l := range append(invalidLevels(), level{}, level{Bans: 3}) {
		for _, x := range []input{{}, {Power: powerGo}, steer(1), brake(), pause(), {Steer: 2}} {
			checkFollows(t, l, input{}, x, false)
			checkFollows(t, l, x, input{}, false)
			checkLegal(t, l, []input{x}, 0)
			checkLegal(t, l, []input{{}, x, {}}, 0)
		}
		checkLegal(t, l, nil, 0)
		checkLegal(t, l, []input{}, 0)
		checkLegal(t, l, make([]input, maxTicks+1), 0)
	}
}

func TestInputsLegalByDefinition(t *testing.T) {
	named := map[int]bool{}
	eachRun(func(l level, list []input) {
		want := legalByDefinition(l, list)
		named[want] = true
		checkLegal(t, l, list, want)
	})
	// The draw has runs that are legal, and others that stop being so early and late.
	for _, index := range []int{-1, 0, 1, 2, 3, 4, 10, 19, 20, 60} {
		if !named[index] {
			t.Errorf("no drawn run has InputsLegal %d", index)
		}
	}
}

func TestInputsLegalForAllShortLists(t *testing.T) {
	for bans := range 4 {
		for _, ticks := range []int{1, 2, 3, 60} {
			l := withBans(withTicks(bareLevel(), ticks), bans)
			eachList(append(inputsByCode(), busyPauses()[0], steer(2), input{Power: 3}), 3, func(list []input) {
				checkLegal(t, l, list, legalByDefinition(l, list))
			})
		}
	}
}

// Long enough for one pause more than there may be.
func TestInputsLegalForAllListsOfPauses(t *testing.T) {
	for bans := range 4 {
		for ticks := 1; ticks <= 8; ticks++ {
			l := withBans(withTicks(bareLevel(), ticks), bans)
			eachList([]input{{}, pause(), {Steer: 1, Power: powerGo}}, 7, func(list []input) {
				checkLegal(t, l, list, legalByDefinition(l, list))
			})
		}
	}
}

func TestInputsLegalOfTheFirstInput(t *testing.T) {
	for _, l := range inputLevels() {
		for _, x := range inputsByCode() {
			want := -1
			if bannedByDefinition(l.Bans, x) {
				want = 0
			}
			checkLegal(t, l, []input{x}, want)
		}
		for _, n := range []int{-1, 0, 1} {
			checkLegal(t, l, []input{steer(n)}, -1)
			checkLegal(t, l, []input{{Steer: n, Power: powerGo}}, -1)
		}
		for _, x := range invalidInputs() {
			checkLegal(t, l, []input{x}, 0)
		}
	}
}

func TestInputsLegalWithAnInvalidInput(t *testing.T) {
	for _, l := range []level{withBans(bareLevel(), 0), withBans(fullLevel(), 3), withBans(roadLevel(), 1)} {
		for _, bad := range invalidInputs() {
			for _, index := range []int{0, 1, 2, l.Ticks - 1} {
				list := make([]input, l.Ticks)
				list[index] = bad
				checkLegal(t, l, list, index)
				// All that comes later makes no difference.
				for later := index + 1; later < len(list); later++ {
					list[later] = input{Steer: 2}
				}
				checkLegal(t, l, list, index)
			}
		}
	}
}

func TestInputsLegalOfBusyPauses(t *testing.T) {
	for bans := range 4 {
		l := withBans(bareLevel(), bans)
		for _, x := range busyPauses() {
			checkLegal(t, l, []input{x}, 0)
			checkLegal(t, l, []input{steer(x.Steer), x}, 1)
			checkLegal(t, l, []input{{}, {Steer: x.Steer}, {}, x, {}, pause()}, 3)
		}
	}
}

// A pause does not steer, so that steering from one side to the other may go on
// after it.
func TestSteeringAroundAPause(t *testing.T) {
	l := withBans(bareLevel(), 0)
	for _, side := range []int{-1, 1} {
		checkLegal(t, l, []input{steer(side), pause(), steer(-side)}, -1)
		checkLegal(t, l, []input{steer(side), pause(), steer(side)}, -1)
		checkLegal(t, l, []input{steer(side), {}, steer(-side)}, -1)
		checkLegal(t, l, []input{steer(side), pause(), steer(-side), steer(side)}, 3)
		checkFollows(t, l, steer(side), pause(), true)
		checkFollows(t, l, pause(), steer(side), true)
	}
}

func TestInputsLegalNamesTheFirst(t *testing.T) {
	l := withBans(withTicks(bareLevel(), 6), 0)
	strict := withBans(l, 3)
	drive, left, right := input{Power: powerGo}, steer(-1), steer(1)
	rows := []struct {
		l    level
		list []input
		want int
	}{
		// Two of the same kind.
		{l, []input{{}, {Steer: 2}, {}, {Power: 3}}, 1},
		{l, []input{left, right, left, right}, 1},
		{l, []input{pause(), pause(), pause(), pause(), pause()}, 3},
		{strict, []input{{}, {}, brake(), brake()}, 2},
		// Two of different kinds, in either order.
		{l, []input{left, right, {Steer: 2}}, 1},
		{l, []input{left, {Steer: 2}, right}, 1},
		{l, []input{left, drive, {Steer: 2}, left, right}, 2},
		{l, []input{left, right, pause(), pause(), pause(), pause()}, 1},
		{l, []input{pause(), pause(), pause(), pause(), left, right}, 3},
		{l, []input{pause(), pause(), pause(), {Power: -1}, pause()}, 3},
		{strict, []input{{}, pause(), left, right}, 1},
		{strict, []input{left, right, pause()}, 1},
		{strict, []input{brake(), {Steer: 2}}, 0},
		{strict, []input{{}, {Steer: 2}, brake()}, 1},
		// There are too many inputs, and one that is not legal ahead of these.
		{l, []input{{}, {}, {}, {}, {}, {Steer: 2}, {}}, 5},
		{l, []input{{}, {}, {}, {}, {}, {}, {Steer: 2}}, 6},
		{l, []input{{}, {}, {}, {}, {}, {}, {}, {Steer: 2}}, 6},
		{l, []input{{}, {}, pause(), pause(), pause(), pause(), {}}, 5},
		{l, []input{{}, {}, {}, pause(), pause(), pause(), pause()}, 6},
		{strict, []input{{}, {}, {}, {}, {}, brake(), {}, {}}, 5},
		// One input for several reasons.
		{strict, []input{left, {Steer: 1, Power: powerBrake}}, 1},
		{withTicks(l, 3), []input{pause(), pause(), pause(), pause()}, 3},
		{withTicks(l, 1), []input{left, right}, 1},
	}
	for _, r := range rows {
		checkLegal(t, r.l, r.list, r.want)
	}
}

func TestInputsLegalOfVeryLongLists(t *testing.T) {
	for _, l := range baseLevels() {
		list := make([]input, 300000)
		checkLegal(t, l, list, l.Ticks)
		list[0] = input{Power: 3}
		checkLegal(t, l, list, 0)
	}
}

func TestBansOfInputs(t *testing.T) {
	rows := []struct{ bans, brake, pause int }{{0, -1, -1}, {1, 2, -1}, {2, -1, 2}, {3, 2, 2}}
	for _, base := range append(baseLevels(), withTicks(bareLevel(), 3)) {
		for _, r := range rows {
			l := withBans(base, r.bans)
			for _, side := range []int{-1, 0, 1} {
				checkLegal(t, l, []input{{}, {}, {Steer: side, Power: powerBrake}}, r.brake)
				checkFollows(t, l, input{}, input{Steer: side, Power: powerBrake}, r.brake == -1)
				checkLegal(t, l, []input{{}, steer(side), pause()}, r.pause)
				checkFollows(t, l, steer(side), pause(), r.pause == -1)
				checkLegal(t, l, []input{{}, {}, {Steer: side, Power: powerGo}}, -1)
			}
		}
	}
}

func TestInputsLeaveTheirArguments(t *testing.T) {
	draw := rand.New(rand.NewSource(13))
	for _, l := range append(inputLevels(), invalidLevels()...) {
		// What is behind the slices in memory is not touched either.
		walls := slices.Concat(l.Walls, []box{boxOf(1, 2, 3, 4)})
		gates := slices.Concat(l.Gates, []box{boxOf(11, 12, 13, 14)})
		part := withWalls(withGates(l, gates[:len(l.Gates)]...), walls[:len(l.Walls)]...)
		wallsBefore, gatesBefore := slices.Clone(walls), slices.Clone(gates)
		for _, run := range drawnRuns(bareLevel(), draw, 3) {
			list := slices.Concat(run, []input{{Steer: 1, Power: powerGo}, pause()})
			listBefore := slices.Clone(list)
			impl.InputsLegal(part, list[:len(run)])
			impl.InputFollows(part, list[0], list[1])
			if !slices.Equal(list, listBefore) {
				t.Errorf("%s in %v were changed", shownInputs(listBefore), shownLevel(l))
			}
		}
		if !slices.Equal(walls, wallsBefore) || !slices.Equal(gates, gatesBefore) {
			t.Errorf("the walls or the gates of %v were changed", shownLevel(l))
		}
	}
}

func TestInputsKeepNoState(t *testing.T) {
	open, strict := withBans(roadLevel(), 0), withBans(roadLevel(), 3)
	pauses := slices.Repeat([]input{pause()}, maxPauses)
	for range 3 {
		checkLegal(t, open, pauses, -1)
		checkLegal(t, strict, pauses, 0)
		checkFollows(t, open, steer(1), brake(), true)
		checkFollows(t, strict, steer(1), brake(), false)
		checkLegal(t, open, []input{steer(1), brake()}, -1)
		checkLegal(t, open, []input{steer(-1)}, -1)
	}
}

func TestP64(t *testing.T) {
	for _, x := range append(inputsByCode(), invalidInputs()...) {
		if code := impl.InputCode(x); code != -1 {
			checkInputOf(t, code, x, true)
		}
	}
	for s := -5; s <= 5; s++ {
		for p := -5; p <= 5; p++ {
			for _, pauses := range []bool{false, true} {
				x := input{Steer: s, Power: p, Pause: pauses}
				code := impl.InputCode(x)
				if (code == -1) != !validByDefinition(x) {
					t.Errorf("InputCode(%v) = %d", x, code)
				}
				if code != -1 {
					checkInputOf(t, code, x, true)
				}
			}
		}
	}
}

func TestP65(t *testing.T) {
	for code := -300; code <= 300; code++ {
		if x, ok := impl.InputOf(code); ok {
			checkCode(t, x, code)
			checkInput(t, x, true)
		}
	}
	for _, code := range noCodes() {
		if x, ok := impl.InputOf(code); ok {
			t.Errorf("InputOf(%d) = %v, %v", code, x, ok)
		}
	}
}

func TestP66(t *testing.T) {
	checkInput(t, pause(), true)
	for _, x := range append(inputsByCode(), invalidInputs()...) {
		if impl.InputValid(x) && x.Pause && (x.Steer != 0 || x.Power != powerNone) {
			t.Errorf("InputValid(%v) holds", x)
		}
	}
	if len(busyPauses()) != 8 {
		t.Errorf("the pauses that steer or have power are %v", busyPauses())
	}
	for _, x := range busyPauses() {
		checkInput(t, x, false)
		checkCode(t, x, -1)
		x.Pause = false
		checkInput(t, x, true)
	}
}

func TestP67(t *testing.T) {
	for _, l := range inputLevels() {
		for _, before := range inputsByCode() {
			for _, x := range inputsByCode() {
				if impl.InputFollows(l, before, x) && size(before.Steer-x.Steer) > 1 {
					t.Errorf("InputFollows(%v, %v, %v) holds", l, before, x)
				}
			}
		}
	}
	checkFollows(t, bareLevel(), steer(-1), steer(1), false)
	checkFollows(t, bareLevel(), steer(1), steer(-1), false)
}

func TestP68(t *testing.T) {
	for _, l := range inputLevels() {
		for _, before := range inputsByCode() {
			for _, x := range inputsByCode() {
				bad := x.Power == powerBrake && impl.LevelBans(l, banBrake) || x.Pause && impl.LevelBans(l, banPause)
				if bad {
					checkFollows(t, l, before, x, false)
				}
			}
		}
	}
}

func TestP69(t *testing.T) {
	for _, l := range inputLevels() {
		for _, x := range drivingInputs() {
			checkFollows(t, l, x, x, true)
			checkFollows(t, l, x, input{}, true)
		}
	}
}

func TestP70(t *testing.T) {
	eachRun(func(l level, list []input) {
		index := impl.InputsLegal(l, list)
		if index == -1 {
			return
		}
		if index < 0 || index >= len(list) {
			t.Errorf("InputsLegal(%v, %s) = %d", l, shownInputs(list), index)
			return
		}
		checkLegal(t, l, list[:index], -1)
		checkLegal(t, l, list[:index+1], index)
	})
}

func TestP71(t *testing.T) {
	eachRun(func(l level, list []input) {
		if impl.InputsLegal(l, list) != -1 {
			return
		}
		if len(list) > l.Ticks || countPauses(list) > maxPauses {
			t.Errorf("InputsLegal(%v, %s) is -1", l, shownInputs(list))
		}
		var before input
		for _, x := range list {
			checkFollows(t, l, before, x, true)
			before = x
		}
	})
}

func TestP72(t *testing.T) {
	for _, base := range baseLevels() {
		for ticks := 1; ticks <= maxTicks; ticks++ {
			l := withTicks(base, ticks)
			for _, many := range []int{0, 1, ticks - 1, ticks} {
				checkLegal(t, l, make([]input, many), -1)
			}
			for _, many := range []int{ticks + 1, ticks + 2, ticks + 256} {
				checkLegal(t, l, make([]input, many), ticks)
			}
		}
	}
}

func TestP73(t *testing.T) {
	for ticks := maxPauses + 1; ticks <= maxTicks; ticks++ {
		for _, base := range baseLevels() {
			for _, bans := range []int{0, banBrake} {
				l := withBans(withTicks(base, ticks), bans)
				checkLegal(t, l, slices.Repeat([]input{pause()}, maxPauses), -1)
				checkLegal(t, l, slices.Repeat([]input{pause()}, maxPauses+1), maxPauses)
			}
		}
	}
}

// Between the pauses is something else, of which there may be any number.
func TestP73Apart(t *testing.T) {
	for _, x := range drivingInputs() {
		for gap := 1; gap <= 14; gap++ {
			l := withBans(withTicks(bareLevel(), maxTicks), 0)
			between := slices.Repeat([]input{x}, gap)
			part := append(slices.Clone(between), pause())
			three := slices.Repeat(part, maxPauses)
			checkLegal(t, l, three, -1)
			checkLegal(t, l, slices.Concat(three, between), -1)
			checkLegal(t, l, slices.Concat(three, part), 4*gap+3)
			checkLegal(t, l, slices.Concat([]input{pause()}, three), 3*gap+3)
		}
	}
}

func TestP74(t *testing.T) {
	seen := map[input]int{}
	for code := -1000; code <= 1000; code++ {
		x, ok := impl.InputOf(code)
		if ok != (0 <= code && code <= 9) {
			t.Errorf("InputOf(%d) = %v, %v", code, x, ok)
		}
		if other, again := seen[x]; ok && again {
			t.Errorf("InputOf is %v for %d and for %d", x, other, code)
		}
		if ok {
			seen[x] = code
		}
	}
	for _, code := range noCodes() {
		checkInputOf(t, code, input{}, false)
	}
}

func TestP75(t *testing.T) {
	// What is behind the end of a slice is not part of the run.
	behind := []input{{Steer: 2}, brake()}
	for _, l := range inputLevels() {
		for _, empty := range [][]input{nil, {}, make([]input, 0, 9), behind[:0]} {
			checkLegal(t, l, empty, -1)
		}
		checkLegal(t, l, []input{{}}, -1)
		checkLegal(t, l, append([]input{{}}, behind...)[:1], -1)
	}
}

func TestP76(t *testing.T) {
	for _, l := range inputLevels() {
		if l.Ticks < 2 {
			continue
		}
		for _, side := range []int{-1, 1} {
			for _, power := range []int{powerNone, powerGo} {
				list := []input{{Steer: side, Power: power}, {Steer: -side, Power: power}}
				checkLegal(t, l, list, 1)
				checkLegal(t, l, list[:1], -1)
				checkLegal(t, l, append(list, input{}), 1)
			}
			// Straight ahead in between makes it legal.
			if l.Ticks > 2 {
				checkLegal(t, l, []input{steer(side), {}, steer(-side)}, -1)
			}
		}
	}
}
