package tests

import (
	"math/rand"
	"testing"

	"loop.example/replayverifier/impl"
)

// movedBy returns by how much a car has moved.
func movedBy(s, after state) vec {
	return vec{X: after.At.X - s.At.X, Y: after.At.Y - s.At.Y}
}

// levelsWithoutWalls returns the levels of the engine, without their walls.
func levelsWithoutWalls() []level {
	var list []level
	for _, l := range engineLevels() {
		list = append(list, withWalls(l))
	}
	return list
}

func TestP77(t *testing.T) {
	for _, l := range engineLevels() {
		s, ok := impl.EngineStart(l)
		if want := (state{At: l.Start}); s != want || !ok {
			t.Errorf("EngineStart(%v) = %v, %v", l, s, ok)
		}
		checkState(t, l, s, true)
	}
}

func TestP78(t *testing.T) {
	eachTick(func(l level, s state, x input, after state) {
		checkState(t, l, after, true)
	})
}

// A run stays valid for as long as it goes on, and beyond.
func TestP78InRuns(t *testing.T) {
	draw := rand.New(rand.NewSource(17))
	for _, l := range engineLevels() {
		for range 5 {
			s, _ := impl.EngineStart(l)
			for range l.Ticks {
				s = stepOf(t, l, s, driverInput(draw))
				checkState(t, l, s, true)
			}
		}
	}
}

func TestP79(t *testing.T) {
	eachTick(func(l level, s state, x input, after state) {
		switch {
		case goesOn(s) && after.Tick != s.Tick+1:
			t.Errorf("EngineStep(%v, %v, %v) = %v", l, s, x, after)
		case !goesOn(s) && after != s:
			t.Errorf("EngineStep(%v, %v, %v) = %v, though the run has ended", l, s, x, after)
		}
	})
}

func TestP80(t *testing.T) {
	eachTick(func(l level, s state, x input, after state) {
		checkFree(t, l, after.At, true)
		if !freeByDefinition(l.Walls, after.At) {
			t.Errorf("EngineStep(%v, %v, %v) = %v, where a wall is", l, s, x, after)
		}
	})
}

func TestP81(t *testing.T) {
	eachTick(func(l level, s state, x input, after state) {
		speed, ok := impl.EngineSpeed(after)
		by := movedBy(s, after)
		if !ok || speed > maxSpeed || size(by.X) > speed || size(by.Y) > speed {
			t.Errorf("EngineStep(%v, %v, %v) = %v, whose speed is %d, %v", l, s, x, after, speed, ok)
		}
	})
}

// From the largest speeds on, power in any direction does not exceed the limit.
func TestP81WithPower(t *testing.T) {
	for _, fast := range fasts() {
		for turn := range directions {
			after := stepOf(t, openLevel(), withTurn(withFast(state{}, fast.X, fast.Y), turn), drive())
			if speed := speedByDefinition(after.Fast); speed > 2000 {
				t.Errorf("from %v in direction %d, the speed gets %d", fast, turn, speed)
			}
		}
	}
}

func TestP82(t *testing.T) {
	eachState(func(l level, s state) {
		switch {
		case !goesOn(s):
			checkStep(t, l, s, pause(), s, true)
		case s.Tick < l.Ticks:
			checkStep(t, l, s, pause(), withTick(s, s.Tick+1), true)
		}
	})
}

func TestP83(t *testing.T) {
	eachTick(func(l level, s state, x input, after state) {
		want := (s.Turn + x.Steer + directions) % directions
		if goesOn(s) && !after.Over && after.Turn != want {
			t.Errorf("EngineStep(%v, %v, %v) = %v, want the direction %d", l, s, x, after, want)
		}
	})
}

func TestP84(t *testing.T) {
	eachTick(func(l level, s state, x input, after state) {
		more := after.Gate - s.Gate
		if more != 0 && (more != 1 || !impl.BoxHas(l.Gates[s.Gate], after.At)) {
			t.Errorf("EngineStep(%v, %v, %v) = %v", l, s, x, after)
		}
		// The next gate is not missed either.
		reached := goesOn(s) && !x.Pause && !after.Over && s.Gate < len(l.Gates) && impl.BoxHas(l.Gates[s.Gate], after.At)
		if reached && more != 1 {
			t.Errorf("EngineStep(%v, %v, %v) = %v, without the gate", l, s, x, after)
		}
	})
}

func TestP85(t *testing.T) {
	eachTick(func(l level, s state, x input, after state) {
		if !goesOn(s) || x.Pause || after.Over {
			return
		}
		want := after.Gate == len(l.Gates) && impl.BoxHas(l.Finish, after.At)
		if after.Done != want {
			t.Errorf("EngineStep(%v, %v, %v) = %v", l, s, x, after)
		}
	})
}

func TestP85NeitherPausesNorLeavingFinish(t *testing.T) {
	eachTick(func(l level, s state, x input, after state) {
		if goesOn(s) && (x.Pause || after.Over) && after.Done {
			t.Errorf("EngineStep(%v, %v, %v) = %v", l, s, x, after)
		}
	})
}

func TestP86(t *testing.T) {
	many := 0
	eachTick(func(l level, s state, x input, after state) {
		if s.Over || !after.Over {
			return
		}
		many++
		if want := withEnd(withTick(s, s.Tick+1), false, true); after != want {
			t.Errorf("EngineStep(%v, %v, %v) = %v, want %v", l, s, x, after, want)
		}
		for _, further := range inputsByCode() {
			checkStep(t, l, after, further, after, true)
		}
	})
	if many < 100 {
		t.Errorf("only %d cars have left the range", many)
	}
}

func TestP87(t *testing.T) {
	eachTick(func(l level, s state, x input, after state) {
		if x.Power == powerGo || x.Pause {
			return
		}
		if size(after.Fast.X) > size(s.Fast.X) || size(after.Fast.Y) > size(s.Fast.Y) {
			t.Errorf("EngineStep(%v, %v, %v) = %v, which is faster", l, s, x, after)
		}
	})
}

func TestP88(t *testing.T) {
	draw := rand.New(rand.NewSource(18))
	for _, l := range levelsWithoutWalls() {
		for _, s := range drawnStates(l, draw, 20) {
			for _, x := range inputsByCode() {
				after, ok := impl.EngineStep(l, s, x)
				if !ok || !goesOn(s) || x.Pause || after.Over {
					continue
				}
				if movedBy(s, after) != after.Fast {
					t.Errorf("EngineStep(%v, %v, %v) = %v, which is not its speed further", l, s, x, after)
				}
			}
		}
	}
}

func TestP89(t *testing.T) {
	far := withWalls(openLevel(), boxOf(-9000, 900, 9000, 1000), boxOf(900, -9000, 1000, 9000))
	for _, l := range []level{openLevel(), far, roadLevel()} {
		for d := range directions {
			want, _ := impl.VecScale(directionOf(t, d), impl.Push)
			if want != pushes()[d] {
				t.Errorf("the push in direction %d is %v, want %v", d, want, pushes()[d])
			}
			after := stepOf(t, l, withTurn(state{At: l.Start}, d), drive())
			if after.Fast != want {
				t.Errorf("EngineStep from rest in direction %d = %v, want the speed %v", d, after, want)
			}
		}
	}
}

// hashesDiffer checks that two states, valid in some level, have different
// hashes.
func hashesDiffer(t *testing.T, s, other state) {
	t.Helper()
	a, b := impl.EngineHash(s), impl.EngineHash(other)
	if a < 0 || b < 0 || a == b {
		t.Errorf("EngineHash is %d of %v and %d of %v", a, s, b, other)
	}
}

func TestP90(t *testing.T) {
	base := state{At: vec{X: -100, Y: 999999}, Fast: vec{X: 1600, Y: -1200}, Gate: 2}
	for _, s := range []state{{}, base, withEnd(base, true, false), withEnd(base, false, true)} {
		for tick := range maxTicks + 1 {
			for other := range tick {
				hashesDiffer(t, withTick(s, tick), withTick(s, other))
			}
		}
		for turn := range directions {
			for other := range turn {
				hashesDiffer(t, withTurn(s, turn), withTurn(s, other))
			}
		}
		for tick := range maxTicks + 1 {
			for turn := range directions {
				if tick != 0 || turn != 0 {
					hashesDiffer(t, s, withTurn(withTick(s, tick), turn))
				}
			}
		}
	}
}

func TestP90OfDrawnStates(t *testing.T) {
	eachState(func(l level, s state) {
		hashesDiffer(t, s, withTick(s, (s.Tick+1)%(maxTicks+1)))
		hashesDiffer(t, s, withTurn(s, (s.Turn+1)%directions))
	})
}

func TestP91(t *testing.T) {
	draw := rand.New(rand.NewSource(19))
	ends := []int{-maxCoordinate, -1, 0, 1, maxCoordinate}
	eachState(func(l level, s state) {
		for _, to := range append(ends, s.At.X+1, s.At.X-1, s.At.Y+1, draw.Intn(2*maxCoordinate+1)-maxCoordinate) {
			if step := size(to - s.At.X); size(to) <= maxCoordinate && 0 < step && step < impl.Hashes {
				hashesDiffer(t, s, withPlace(s, vec{X: to, Y: s.At.Y}))
			}
			if step := size(to - s.At.Y); size(to) <= maxCoordinate && 0 < step && step < impl.Hashes {
				hashesDiffer(t, s, withPlace(s, vec{X: s.At.X, Y: to}))
			}
		}
	})
	// By one less than Hashes, and by exactly that.
	hashesDiffer(t, carAt(-500000, 5), carAt(impl.Hashes-500001, 5))
	hashesDiffer(t, carAt(5, -500000), carAt(5, impl.Hashes-500001))
	if a, b := impl.EngineHash(carAt(-500000, 5)), impl.EngineHash(carAt(impl.Hashes-500000, 5)); a != b {
		t.Errorf("the hashes of places that are Hashes apart are %d and %d", a, b)
	}
}

func TestP92(t *testing.T) {
	eachState(func(l level, s state) {
		length, ok := impl.VecLength(s.Fast)
		checkSpeed(t, s, length, ok)
		checkSpeed(t, s, speedByDefinition(s.Fast), true)
	})
	for _, fast := range fasts() {
		checkSpeed(t, withFast(carAt(1, -1), fast.X, fast.Y), speedByDefinition(fast), true)
	}
}

func TestP93(t *testing.T) {
	draw := rand.New(rand.NewSource(20))
	for _, l := range levelsWithoutWalls() {
		for _, s := range drawnStates(l, draw, 20) {
			if !goesOn(s) || s.Tick == l.Ticks {
				continue
			}
			for _, side := range []int{-1, 0, 1} {
				slow, _ := impl.EngineSpeed(stepOf(t, l, s, input{Steer: side, Power: powerBrake}))
				roll, _ := impl.EngineSpeed(stepOf(t, l, s, steer(side)))
				if slow > roll+2 {
					t.Errorf("after %v in %v, the speed is %d with brakes and %d without", s, l, slow, roll)
				}
			}
		}
	}
}

func TestP94(t *testing.T) {
	ended := 0
	for _, base := range engineLevels() {
		l := withTicks(base, maxTicks)
		for _, side := range []int{-1, 1} {
			for _, power := range []int{powerNone, powerGo, powerBrake} {
				for turn := range directions {
					s := withTurn(state{At: l.Start}, turn)
					for range 16 {
						s = stepOf(t, l, s, input{Steer: side, Power: power})
					}
					if !goesOn(s) {
						ended++
					} else if s.Turn != turn || s.Tick != 16 {
						t.Errorf("16 ticks from direction %d in %v lead to %v", turn, l, s)
					}
				}
			}
		}
	}
	if ended == 0 {
		t.Error("no run has ended")
	}
}

func TestP95(t *testing.T) {
	eachState(func(l level, s state) {
		s.Tick = l.Ticks
		for _, x := range inputsByCode() {
			if goesOn(s) {
				checkStep(t, l, s, x, state{}, false)
			} else {
				checkStep(t, l, s, x, s, true)
			}
		}
	})
}
