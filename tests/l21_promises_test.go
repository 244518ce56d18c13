package tests

import (
	"math"
	"math/rand"
	"slices"
	"testing"

	"loop.example/replayverifier/impl"
)

// noRuns returns lists that are no runs in a level, made from a run: with an
// illegal input at its beginning, in its middle and at its end, and with too
// many inputs.
func noRuns(l level, list []input) [][]input {
	lists := [][]input{append(slices.Clone(list), rolls(l.Ticks+1-len(list))...)}
	if len(list) > 0 {
		for _, index := range []int{0, len(list) / 2, len(list) - 1} {
			for _, x := range []input{{Steer: 2}, {Power: -1}, {Power: powerGo, Pause: true}} {
				other := slices.Clone(list)
				other[index] = x
				lists = append(lists, other)
			}
		}
	}
	if len(list) > 1 {
		other := slices.Clone(list)
		other[len(list)-2], other[len(list)-1] = steer(-1), steer(1)
		lists = append(lists, other)
	}
	return lists
}

// pathOf returns RunPath of a run, which has a place for each number of inputs.
func pathOf(t *testing.T, l level, list []input) []vec {
	t.Helper()
	path := impl.RunPath(l, list)
	if len(path) != len(list)+1 {
		t.Fatalf("RunPath(%v, %s) has %d places", l, shownInputs(list), len(path))
	}
	return path
}

// eachFinish calls check with the runs that finish, and with their scores.
func eachFinish(t *testing.T, check func(l level, list []input, score int)) {
	t.Helper()
	many := 0
	eachDrive(func(l level, list []input) {
		score := impl.RunScore(l, list)
		if score == -1 {
			return
		}
		many++
		if score < 1 || score > len(list) {
			t.Errorf("RunScore(%v, %s) = %d", l, shownInputs(list), score)
			return
		}
		check(l, list, score)
	})
	if many < 100 {
		t.Errorf("only %d runs finish", many)
	}
}

func TestP96(t *testing.T) {
	eachDrive(func(l level, list []input) {
		start, ok := impl.EngineStart(l)
		if !ok {
			t.Errorf("EngineStart(%v) fails", l)
		}
		checkRunTo(t, l, list, 0, start, true)
		checkRunTo(t, l, nil, 0, start, true)
		if place := pathOf(t, l, list)[0]; place != l.Start {
			t.Errorf("RunPath(%v, %s) begins with %v", l, shownInputs(list), place)
		}
	})
}

func TestP97(t *testing.T) {
	eachDrive(func(l level, list []input) {
		for n, x := range list {
			checkRunTo(t, l, list, n+1, stepOf(t, l, runTo(t, l, list, n), x), true)
		}
	})
}

func TestP98(t *testing.T) {
	ended := 0
	eachDrive(func(l level, list []input) {
		for n := range len(list) + 1 {
			s := runTo(t, l, list, n)
			checkState(t, l, s, true)
			switch {
			case goesOn(s) && s.Tick != n:
				t.Errorf("RunTo(%v, %s, %d) = %v", l, shownInputs(list), n, s)
			case !goesOn(s) && (s.Tick < 1 || s.Tick > n):
				t.Errorf("RunTo(%v, %s, %d) = %v, which has ended later", l, shownInputs(list), n, s)
			case !goesOn(s) && s.Tick < n:
				ended++
				// It had ended with the input of its tick.
				checkRunTo(t, l, list, s.Tick, s, true)
			}
		}
	})
	if ended < 100 {
		t.Errorf("only %d states are behind the end of a run", ended)
	}
}

func TestP99(t *testing.T) {
	eachDrive(func(l level, list []input) {
		for n, place := range pathOf(t, l, list) {
			checkFree(t, l, place, true)
			if !freeByDefinition(l.Walls, place) {
				t.Errorf("RunPath(%v, %s) has %v after %d inputs, where a wall is", l, shownInputs(list), place, n)
			}
		}
	})
}

// In a corridor, and in a cell without a way out, all drives keep hitting walls.
func TestP99BesideWalls(t *testing.T) {
	draw := rand.New(rand.NewSource(23))
	for _, base := range []level{corridorLevel(), withFinish(fullLevel(), pointBox(vec{})), wideLevel()} {
		for range 100 {
			l := withBans(withTicks(base, maxTicks), 0)
			list := drawnDrive(l, draw)
			checkRun(t, l, list)
			for _, place := range pathOf(t, l, list) {
				checkFree(t, l, place, true)
			}
		}
	}
}

func TestP100(t *testing.T) {
	eachDrive(func(l level, list []input) {
		for n, place := range pathOf(t, l, list) {
			if s := runTo(t, l, list, n); s.At != place {
				t.Errorf("RunPath(%v, %s) has %v after %d inputs, but RunTo is %v", l, shownInputs(list), place, n, s)
			}
		}
	})
}

func TestP101(t *testing.T) {
	eachFinish(t, func(l level, list []input, score int) {
		s := runTo(t, l, list, score)
		if !s.Done || s.Over || s.Tick != score || s.Gate != len(l.Gates) || !impl.BoxHas(l.Finish, s.At) {
			t.Errorf("after %d ticks of %s in %v, the state is %v", score, shownInputs(list), l, s)
		}
		if ahead := runTo(t, l, list, score-1); !goesOn(ahead) || ahead.Tick != score-1 {
			t.Errorf("after %d ticks of %s in %v, the state is %v already", score-1, shownInputs(list), l, ahead)
		}
	})
}

// A run that has finished has a score, and one that has not has none.
func TestP101ForAllRuns(t *testing.T) {
	eachDrive(func(l level, list []input) {
		want := -1
		if s := runTo(t, l, list, len(list)); s.Done {
			want = s.Tick
		}
		checkScore(t, l, list, want)
	})
}

func TestP102(t *testing.T) {
	eachFinish(t, func(l level, list []input, score int) {
		checkScore(t, l, list[:score], score)
		checkScore(t, l, list[:score-1], -1)
		for many := score; many <= len(list); many++ {
			checkScore(t, l, list[:many], score)
		}
	})
}

func TestP103(t *testing.T) {
	gates := 0
	eachFinish(t, func(l level, list []input, score int) {
		path := pathOf(t, l, list)
		tick := 0
		for index, gate := range l.Gates {
			tick++
			for tick <= score && !impl.BoxHas(gate, path[tick]) {
				tick++
			}
			if tick > score {
				t.Errorf("%s in %v finish at tick %d without gate %d", shownInputs(list), l, score, index)
				return
			}
			gates++
		}
	})
	if gates < 100 {
		t.Errorf("only %d gates are passed", gates)
	}
}

func TestP104(t *testing.T) {
	eachDrive(func(l level, list []input) {
		for _, bad := range noRuns(l, list) {
			if impl.InputsLegal(l, bad) == -1 {
				t.Errorf("InputsLegal(%v, %s) is -1", l, shownInputs(bad))
			}
			checkNoRun(t, l, bad)
		}
	})
	for _, l := range append(invalidLevels(), level{}) {
		checkNoRun(t, l, nil)
		checkNoRun(t, l, drives(5))
	}
}

func TestP104OfDrawnLists(t *testing.T) {
	many := 0
	eachRun(func(l level, list []input) {
		if impl.InputsLegal(l, list) != -1 {
			many++
			checkNoRun(t, l, list)
		} else if _, ok := impl.RunTo(l, list, len(list)); !ok {
			t.Errorf("RunTo(%v, %s, %d) fails", l, shownInputs(list), len(list))
		}
	})
	if many < 100 {
		t.Errorf("only %d lists are no runs", many)
	}
}

func TestP105(t *testing.T) {
	eachDrive(func(l level, list []input) {
		hashes := impl.RunHashes(l, list)
		if len(hashes) != len(list)/impl.Every {
			t.Errorf("RunHashes(%v, %s) = %v", l, shownInputs(list), hashes)
			return
		}
		for index, hash := range hashes {
			s := runTo(t, l, list, (index+1)*impl.Every)
			checkStateHash(t, s, hash)
			if hash < 0 {
				t.Errorf("RunHashes(%v, %s) has %d", l, shownInputs(list), hash)
			}
		}
	})
}

func TestP106(t *testing.T) {
	eachDrive(func(l level, list []input) {
		hashes := impl.RunHashes(l, list)
		if len(hashes) != len(list)/impl.Every {
			t.Fatalf("RunHashes(%v, %s) = %v", l, shownInputs(list), hashes)
		}
		for many := range len(list) + 1 {
			checkHashes(t, l, list[:many], hashes[:many/impl.Every])
		}
	})
}

func TestP107(t *testing.T) {
	draw := rand.New(rand.NewSource(24))
	differ := 0
	eachDrive(func(l level, list []input) {
		many := draw.Intn(len(list) + 1)
		for _, x := range []input{{}, drive(), steer(1), brake(), pause()} {
			other := append(slices.Clone(list[:many]), slices.Repeat([]input{x}, draw.Intn(l.Ticks-many+1))...)
			if impl.InputsLegal(l, other) != -1 {
				continue
			}
			for n := range many + 1 {
				checkRunTo(t, l, other, n, runTo(t, l, list, n), true)
			}
			if same := min(len(list), len(other)); !slices.Equal(impl.RunPath(l, list)[:same+1], impl.RunPath(l, other)[:same+1]) {
				differ++
			}
		}
	})
	if differ < 100 {
		t.Errorf("only %d runs differ from those with the same beginning", differ)
	}
}

func TestP108(t *testing.T) {
	eachDrive(func(l level, list []input) {
		for _, n := range outsideCounts(len(list)) {
			checkRunTo(t, l, list, n, state{}, false)
		}
		// Neither the ticks of the level nor what is behind the slice count.
		for n := len(list) + 1; n <= maxTicks+1; n++ {
			checkRunTo(t, l, append(slices.Clone(list), rolls(3)...)[:len(list)], n, state{}, false)
		}
		for n := 1; n <= maxTicks+1; n++ {
			checkRunTo(t, l, list, -n, state{}, false)
		}
		checkRunTo(t, l, list, math.MinInt, state{}, false)
		checkRunTo(t, l, list, math.MaxInt, state{}, false)
	})
}

func TestP109(t *testing.T) {
	finished := 0
	eachDrive(func(l level, list []input) {
		if countPauses(list) >= maxPauses || len(list) == l.Ticks {
			return
		}
		later := append(pauses(1), list...)
		score := impl.RunScore(l, list)
		if impl.LevelBans(l, banPause) {
			checkNoRun(t, l, later)
		} else if score == -1 {
			checkScore(t, l, later, -1)
		} else {
			finished++
			checkScore(t, l, later, score+1)
		}
	})
	if finished < 20 {
		t.Errorf("only %d runs finish after a pause", finished)
	}
}

// As many pauses as there may be, and one more.
func TestP109Repeated(t *testing.T) {
	for _, l := range []level{laneLevel(5), withGates(laneLevel(9), pointBox(laneAt(1))), withWalls(laneLevel(1), boxOf(-9000, 600, 9000, 700))} {
		score := impl.RunScore(l, drives(10))
		for many := range maxPauses + 1 {
			list := append(pauses(many), drives(10)...)
			checkScore(t, l, list, score+many)
			checkRun(t, l, list)
		}
		checkNoRun(t, l, append(pauses(maxPauses+1), drives(10)...))
		// There is no tick left.
		full := withTicks(l, 10)
		checkScore(t, full, drives(10), score)
		checkNoRun(t, full, append(pauses(1), drives(10)...))
	}
}
