package tests

import (
	"math/rand"
	"slices"
	"testing"

	"loop.example/replayverifier/impl"
)

// madeOf returns the replay that ReplayMake makes of a run.
func madeOf(t *testing.T, l level, player, key int, list []input) replay {
	t.Helper()
	r, ok := impl.ReplayMake(l, player, key, list)
	if !ok {
		t.Errorf("ReplayMake(%v, %d, %d, %s) fails", shownLevel(l), player, key, shownInputs(list))
	}
	return r
}

// tagged returns a replay with the tag that the program gives it.
func tagged(r replay, key int) replay {
	return withTag(r, impl.TagOf(key, impl.ReplayList(r)))
}

// eachMade calls check with replays that ReplayMake makes of all kinds of runs.
func eachMade(t *testing.T, check func(l level, key int, r replay)) {
	t.Helper()
	draw := rand.New(rand.NewSource(54))
	one := func(l level, list []input) {
		key := 1 + drawnIn(draw, maxKey-1)
		check(l, key, madeOf(t, l, draw.Intn(players), key, list))
	}
	for _, run := range honestRuns() {
		one(run.l, run.list)
	}
	eachDrive(one)
}

// eachFine calls check with replays that are accepted.
func eachFine(t *testing.T, check func(l level, key int, r replay)) {
	t.Helper()
	many := 0
	eachMade(t, func(l level, key int, r replay) {
		if impl.VerifyReplay(l, key, r) == impl.VerdictFine {
			many++
			check(l, key, r)
		}
	})
	if many < 100 {
		t.Errorf("only %d replays are accepted", many)
	}
}

// otherKeys returns some keys that differ from a key.
func otherKeys(key int) []int {
	list := append(hashedKeys(), max(key-1, 1), min(key+1, maxKey), (key+4999)%maxKey+1)
	return slices.DeleteFunc(list, func(n int) bool { return n == key })
}

func TestP132(t *testing.T) {
	eachMade(t, func(l level, key int, r replay) {
		if !impl.ReplayValid(r) || r.Level != l.Id {
			t.Errorf("ReplayMake in %v makes %s", shownLevel(l), shownReplay(r))
		}
		if score := impl.RunScore(l, r.Inputs); score != r.Score && !(score == -1 && r.Score == 0) {
			t.Errorf("ReplayMake of a run with the score %d makes %s", score, shownReplay(r))
		}
		if !slices.Equal(r.Hashes, impl.RunHashes(l, r.Inputs)) {
			t.Errorf("the hashes of %s are not those of its run", shownReplay(r))
		}
		if r.Tag != impl.TagOf(key, impl.ReplayList(r)) || !impl.TagCheck(key, impl.ReplayList(r), r.Tag) {
			t.Errorf("the tag of %s is not that with the key %d", shownReplay(r), key)
		}
	})
}

func TestP133(t *testing.T) {
	many := 0
	eachMade(t, func(l level, key int, r replay) {
		if impl.RunScore(l, r.Inputs) == len(r.Inputs) {
			many++
			checkVerdict(t, l, key, r, impl.VerdictFine)
		}
	})
	if many < 100 {
		t.Errorf("only %d runs finish with their last input", many)
	}
}

func TestP134(t *testing.T) {
	many := map[int]int{}
	eachMade(t, func(l level, key int, r replay) {
		if impl.RunScore(l, r.Inputs) != -1 {
			return
		}
		verdict := impl.VerifyReplay(l, key, r)
		many[verdict]++
		if verdict != impl.VerdictOpen && verdict != impl.VerdictRange {
			t.Errorf("VerifyReplay of %s, which does not finish, is %d", shownReplay(r), verdict)
		}
		if last := runTo(t, l, r.Inputs, len(r.Inputs)); last.Over != (verdict == impl.VerdictRange) {
			t.Errorf("VerifyReplay of %s, which leads to %v, is %d", shownReplay(r), last, verdict)
		}
	})
	if many[impl.VerdictOpen] < 50 || many[impl.VerdictRange] < 50 {
		t.Errorf("the verdicts come up so often: %v", many)
	}
}

func TestP135(t *testing.T) {
	eachMade(t, func(l level, key int, r replay) {
		for _, other := range otherKeys(key) {
			if impl.TagOf(other, impl.ReplayList(r)) != r.Tag {
				checkVerdict(t, l, other, r, impl.VerdictTag)
			}
		}
	})
}

// With most replays, no two keys give the same tag.
func TestP135ForAllKeys(t *testing.T) {
	for _, run := range honestRuns()[:5] {
		r := madeOf(t, run.l, 2, 7, run.list)
		for key := 1; key <= maxKey; key++ {
			if key != 7 {
				checkVerdict(t, run.l, key, r, impl.VerdictTag)
			}
		}
	}
}

func TestP136(t *testing.T) {
	many := 0
	eachSent(func(l level, key int, r replay) {
		if impl.VerifyReplay(l, key, r) != impl.VerdictFine {
			return
		}
		many++
		if impl.InputsLegal(l, r.Inputs) != -1 {
			t.Errorf("%s is accepted in %v, but has an illegal input", shownReplay(r), l)
		}
		if !slices.Equal(impl.RunHashes(l, r.Inputs), r.Hashes) {
			t.Errorf("%s is accepted in %v, but has a wrong hash", shownReplay(r), l)
		}
		if !impl.TagCheck(key, impl.ReplayList(r), r.Tag) {
			t.Errorf("%s is accepted in %v, but has a wrong tag", shownReplay(r), l)
		}
		if score := impl.RunScore(l, r.Inputs); score != r.Score || score != len(r.Inputs) {
			t.Errorf("%s is accepted in %v, but its run has the score %d", shownReplay(r), l, score)
		}
	})
	if many < 100 {
		t.Errorf("only %d replays are accepted", many)
	}
}

func TestP137(t *testing.T) {
	eachFine(t, func(l level, key int, r replay) {
		for score := range maxTicks + 1 {
			if score == r.Score {
				continue
			}
			other := copyOf(r)
			other.Score = score
			checkVerdict(t, l, key, tagged(other, key), impl.VerdictScore)
		}
	})
}

func TestP138(t *testing.T) {
	eachFine(t, func(l level, key int, r replay) {
		for index, hash := range r.Hashes {
			for _, step := range []int{1, 2, 500000, hashes - 1} {
				other := withHashes(r, changedAt(r.Hashes, index, (hash+step)%hashes)...)
				checkVerdict(t, l, key, tagged(other, key), impl.VerdictHash)
			}
		}
	})
}

func TestP139(t *testing.T) {
	eachFine(t, func(l level, key int, r replay) {
		for score := range maxTicks + 1 {
			if score != r.Score {
				other := copyOf(r)
				other.Score = score
				checkVerdict(t, l, key, other, impl.VerdictTag)
			}
		}
	})
}

func TestP140(t *testing.T) {
	many := 0
	eachFine(t, func(l level, key int, r replay) {
		for _, x := range inputsByCode() {
			list := append(slices.Clone(r.Inputs), x)
			if impl.InputsLegal(l, list) != -1 {
				continue
			}
			many++
			other := madeOf(t, l, r.Player, key, list)
			if other.Score != r.Score {
				t.Errorf("ReplayMake makes %s, with one input less it was %s", shownReplay(other), shownReplay(r))
			}
			checkVerdict(t, l, key, other, impl.VerdictOpen)
			// The number of the inputs is no true score either.
			other.Score = len(list)
			checkVerdict(t, l, key, tagged(other, key), impl.VerdictOpen)
		}
	})
	if many < 200 {
		t.Errorf("only %d inputs are legal behind the finish", many)
	}
}

func TestP141(t *testing.T) {
	many := map[int]int{}
	eachSent(func(l level, key int, r replay) {
		want := 0
		switch {
		case !impl.ReplayValid(r):
			want = impl.VerdictText
		case !impl.LevelValid(l) || l.Id != r.Level:
			want = impl.VerdictLevel
		case key < 1 || key > impl.MaxKey:
			want = impl.VerdictKey
		case !impl.TagCheck(key, impl.ReplayList(r), r.Tag):
			want = impl.VerdictTag
		case impl.InputsLegal(l, r.Inputs) != -1:
			want = impl.VerdictInput
		}
		many[want]++
		got := impl.VerifyReplay(l, key, r)
		if want != 0 && got != want || want == 0 && impl.VerdictText <= got && got <= impl.VerdictInput {
			t.Errorf("VerifyReplay(%v, %d) of %s = %d, want %d", shownLevel(l), key, shownReplay(r), got, want)
		}
	})
	for want := range 6 {
		if many[want] < 20 {
			t.Errorf("the verdicts come up so often: %v", many)
		}
	}
}

func TestP142(t *testing.T) {
	many := map[int]int{}
	eachSent(func(l level, key int, r replay) {
		verdict := impl.VerifyReplay(l, key, r)
		if impl.VerdictText <= verdict && verdict <= impl.VerdictInput {
			return
		}
		want := impl.VerdictFine
		last := runTo(t, l, r.Inputs, len(r.Inputs))
		switch {
		case last.Over:
			want = impl.VerdictRange
		case impl.DivergeFirst(impl.RunHashes(l, r.Inputs), r.Hashes) != -1:
			want = impl.VerdictHash
		case impl.RunScore(l, r.Inputs) != len(r.Inputs):
			want = impl.VerdictOpen
		case impl.RunScore(l, r.Inputs) != r.Score:
			want = impl.VerdictScore
		}
		many[want]++
		checkVerdict(t, l, key, r, want)
	})
	for _, want := range []int{impl.VerdictFine, impl.VerdictRange, impl.VerdictHash, impl.VerdictOpen, impl.VerdictScore} {
		if many[want] < 20 {
			t.Errorf("the verdicts come up so often: %v", many)
		}
	}
}

func TestP143(t *testing.T) {
	seen := map[string]int{}
	for verdict := -3000; verdict <= 3000; verdict++ {
		name := impl.VerifyName(verdict)
		if named := impl.VerdictFine <= verdict && verdict <= impl.VerdictScore; named != (name != "") {
			t.Errorf("VerifyName(%d) = %q", verdict, name)
		}
		if other, ok := seen[name]; ok && name != "" {
			t.Errorf("%d and %d have the name %q", other, verdict, name)
		}
		seen[name] = verdict
	}
}

func TestP144(t *testing.T) {
	ticks := map[bool]int{}
	eachSent(func(l level, key int, r replay) {
		if !impl.ReplayValid(r) || !impl.LevelValid(l) || l.Id != r.Level {
			checkTick(t, l, r, -1)
			return
		}
		want := impl.InputsLegal(l, r.Inputs)
		if want == -1 {
			if found, ok := impl.DivergeReport(l, r.Inputs, r.Hashes); ok {
				want = found.From
			}
		}
		ticks[want == -1]++
		checkTick(t, l, r, want)
		// Neither the score nor the player nor the tag counts.
		r.Score, r.Player, r.Tag = (r.Score+1)%maxTicks, (r.Player+1)%players, (r.Tag+1)%hashes
		checkTick(t, l, r, want)
	})
	if ticks[false] < 100 || ticks[true] < 100 {
		t.Errorf("a replay goes wrong at a tick or not: %v", ticks)
	}
}

func TestP145(t *testing.T) {
	eachMade(t, func(l level, key int, r replay) {
		for player := range players {
			other := madeOf(t, l, player, key, r.Inputs)
			if other.Player != player || (player != r.Player) != (other.Tag != r.Tag) {
				t.Errorf("ReplayMake for player %d makes %s, for player %d it makes %s", r.Player, shownReplay(r), player, shownReplay(other))
			}
			other.Player, other.Tag = r.Player, r.Tag
			if !sameReplay(other, r) {
				t.Errorf("ReplayMake for player %d makes %s, for player %d it is like %s", r.Player, shownReplay(r), player, shownReplay(other))
			}
		}
	})
}

func TestP146(t *testing.T) {
	eachFine(t, func(l level, key int, r replay) {
		for number := range maxLevel + 1 {
			if number != l.Id {
				checkVerdict(t, withNumber(l, number), key, r, impl.VerdictLevel)
			}
		}
		for _, number := range outsideOf(0, maxLevel) {
			checkVerdict(t, withNumber(l, number), key, r, impl.VerdictLevel)
		}
	})
}

func TestP147(t *testing.T) {
	many := 0
	eachSent(func(l level, key int, r replay) {
		if impl.VerifyReplay(l, key, r) == impl.VerdictFine {
			many++
			checkTick(t, l, r, -1)
		}
	})
	if many < 100 {
		t.Errorf("only %d replays are accepted", many)
	}
	eachFine(t, func(l level, key int, r replay) { checkTick(t, l, r, -1) })
}
