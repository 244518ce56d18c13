package tests

import (
	"math/rand"
	"runtime"
	"slices"
	"sync"
	"testing"

	"loop.example/replayverifier/impl"
)

// The verdicts, in the order in which they are looked for.
const (
	fine = iota
	wrongText
	wrongLevel
	wrongKey
	wrongTag
	wrongInput
	wrongRange
	wrongHash
	wrongOpen
	wrongScore
)

// honestRun is a run with the verdict on a replay that claims what is true.
type honestRun struct {
	l       level
	list    []input
	verdict int
}

// honestRuns returns runs that finish with their last input, that do not finish,
// that finish ahead of their last input, and that leave the range.
func honestRuns() []honestRun {
	road := withBans(withTicks(roadLevel(), maxTicks), 0)
	longest := withNumber(withTicks(laneLevel(maxTicks), maxTicks), maxLevel)
	end := withNumber(withStart(openLevel(), vec{X: maxCoordinate, Y: -maxCoordinate}), 0)
	return []honestRun{
		{laneLevel(1), drives(1), fine}, {laneLevel(4), drives(4), fine}, {laneLevel(5), drives(5), fine}, {withTicks(laneLevel(6), 6), drives(6), fine},
		{withNumber(laneLevel(10), 0), drives(10), fine}, {laneLevel(20), drives(20), fine}, {longest, drives(maxTicks), fine},
		{roadLevel(), drives(7), fine}, {road, busyRun()[:12], fine}, {laneLevel(5), slices.Concat(pauses(3), drives(5)), fine},
		{laneLevel(5), nil, wrongOpen}, {laneLevel(5), pauses(3), wrongOpen}, {laneLevel(7), drives(6), wrongOpen}, {openLevel(), drives(20), wrongOpen},
		{longest, drives(maxTicks - 1), wrongOpen}, {withTicks(openLevel(), maxTicks), rolls(maxTicks), wrongOpen},
		{laneLevel(1), drives(2), wrongOpen}, {laneLevel(7), drives(8), wrongOpen}, {laneLevel(7), append(drives(7), pause()), wrongOpen}, {laneLevel(5), drives(20), wrongOpen}, {road, busyRun(), wrongOpen},
		{end, drives(1), wrongRange}, {edgeLevel(), drives(3), wrongRange}, {edgeLevel(), drives(4), wrongRange}, {edgeLevel(), append(drives(10), pause()), wrongRange}, {edgeLevel(), drives(20), wrongRange},
	}
}

// signed returns a replay with its right tag.
func signed(r replay, key int) replay {
	return withTag(r, tagByDefinition(key, listByDefinition(r)))
}

// madeByDefinition returns the replay of a run.
func madeByDefinition(l level, player, key int, list []input) replay {
	r := replay{Level: l.Id, Player: player, Inputs: slices.Clone(list), Hashes: hashesOfRun(l, list)}
	if last := statesByDefinition(l, list)[len(list)]; last.Done {
		r.Score = last.Tick
	}
	return signed(r, key)
}

func levelByDefinition(l level) bool {
	for _, b := range slices.Concat(l.Walls, l.Gates, []box{l.Finish}) {
		if !coordinatesInRange(b.Low) || !coordinatesInRange(b.High) || b.Low.X > b.High.X || b.Low.Y > b.High.Y {
			return false
		}
	}
	return isAmong(l.Id, 0, 99) && isAmong(l.Ticks, 1, 60) && isAmong(l.Bans, 0, 3) && len(l.Walls) <= 4 && len(l.Gates) <= 3 &&
		coordinatesInRange(l.Start) && freeByDefinition(l.Walls, l.Start)
}

// verdictByDefinition returns the verdict on any replay.
func verdictByDefinition(l level, key int, r replay) int {
	switch {
	case !replayByDefinition(r):
		return wrongText
	case !levelByDefinition(l) || l.Id != r.Level:
		return wrongLevel
	case !isAmong(key, 1, 9999):
		return wrongKey
	case r.Tag != tagByDefinition(key, listByDefinition(r)):
		return wrongTag
	case legalByDefinition(l, r.Inputs) != -1:
		return wrongInput
	}
	states := statesByDefinition(l, r.Inputs)
	many := len(r.Inputs)
	switch {
	case states[many].Over:
		return wrongRange
	case !slices.Equal(hashesOfRun(l, r.Inputs), r.Hashes):
		return wrongHash
	case !states[many].Done || states[many-1].Done:
		return wrongOpen
	case r.Score != many:
		return wrongScore
	}
	return fine
}

// tickByDefinition returns the tick at which any replay goes wrong, or -1.
func tickByDefinition(l level, r replay) int {
	if !replayByDefinition(r) || !levelByDefinition(l) || l.Id != r.Level {
		return -1
	}
	if index := legalByDefinition(l, r.Inputs); index != -1 {
		return index
	}
	for index, hash := range hashesOfRun(l, r.Inputs) {
		if r.Hashes[index] != hash {
			return 5 * index
		}
	}
	return -1
}

func checkVerdict(t *testing.T, l level, key int, r replay, want int) {
	t.Helper()
	if got := impl.VerifyReplay(l, key, r); got != want {
		t.Errorf("VerifyReplay(%v, %d) of %s = %d, want %d", shownLevel(l), key, shownReplay(r), got, want)
	}
}

func checkTick(t *testing.T, l level, r replay, want int) {
	t.Helper()
	if got := impl.VerifyTick(l, r); got != want {
		t.Errorf("VerifyTick(%v) of %s = %d, want %d", shownLevel(l), shownReplay(r), got, want)
	}
}

func checkName(t *testing.T, verdict int, want string) {
	t.Helper()
	if got := impl.VerifyName(verdict); got != want {
		t.Errorf("VerifyName(%d) = %q, want %q", verdict, got, want)
	}
}

func checkMade(t *testing.T, l level, player, key int, list []input, want replay, wantOk bool) {
	t.Helper()
	if got, ok := impl.ReplayMake(l, player, key, list); !sameReplay(got, want) || ok != wantOk {
		t.Errorf("ReplayMake(%v, %d, %d, %s) = %s, %v, want %s, %v", shownLevel(l), player, key, shownInputs(list), shownReplay(got), ok, shownReplay(want), wantOk)
	}
}

func checkNotMade(t *testing.T, l level, player, key int, list []input) {
	t.Helper()
	checkMade(t, l, player, key, list, replay{}, false)
}

// sent is a replay with the level and the key with which it is verified.
type sent struct {
	l   level
	key int
	r   replay
	// How far the tag is from the right one: modulo Hashes, and after that.
	tagStep, tagBeyond int
}

// fault is something that is wrong with a replay, its level or its key, and the
// verdict if it is the only one.
type fault struct {
	verdict int
	spoil   func(s *sent)
}

// sentWith returns an honest replay of player 2 that is made wrong; but for
// faults of the tag, the tag is right for what it has become.
func sentWith(run honestRun, faults ...fault) sent {
	s := sent{l: run.l, key: 7, r: madeByDefinition(run.l, 2, 7, run.list)}
	// What is looked for first is spoiled last, so that it stays.
	order := slices.Clone(faults)
	slices.SortStableFunc(order, func(a, b fault) int { return b.verdict - a.verdict })
	for _, f := range order {
		f.spoil(&s)
	}
	right := tagByDefinition(s.key, listByDefinition(s.r))
	s.r.Tag = (right+s.tagStep)%hashes + s.tagBeyond
	return s
}

// firstVerdict returns the verdict on a run with faults: that of the fault that
// is looked for first.
func firstVerdict(run honestRun, faults ...fault) int {
	first := run.verdict
	for _, f := range faults {
		if first == fine || f.verdict < first {
			first = f.verdict
		}
	}
	return first
}

func checkFaults(t *testing.T, run honestRun, faults ...fault) {
	t.Helper()
	s := sentWith(run, faults...)
	checkVerdict(t, s.l, s.key, s.r, firstVerdict(run, faults...))
}

// places returns the first, a middle and the last index of a list.
func places(length int) []int {
	if length == 0 {
		return nil
	}
	return slices.Compact([]int{0, length / 2, length - 1})
}

// textFaults returns faults by which the replay of a run becomes invalid.
func textFaults(run honestRun) []fault {
	var list []fault
	add := func(spoil func(s *sent)) { list = append(list, fault{wrongText, spoil}) }
	for _, n := range []int{-1, 100} {
		add(func(s *sent) { s.r.Level = n })
		// The level has the number, too.
		add(func(s *sent) { s.r.Level, s.l.Id = n, n })
	}
	for _, n := range []int{-1, 10} {
		add(func(s *sent) { s.r.Player = n })
	}
	for _, n := range []int{-1, 61} {
		add(func(s *sent) { s.r.Score = n })
	}
	for _, n := range []int{-hashes, hashes} {
		add(func(s *sent) { s.tagBeyond = n })
	}
	add(func(s *sent) { s.r.Hashes = append(s.r.Hashes, 0) })
	add(func(s *sent) { s.r = withReplayInputs(s.r, rolls(maxTicks+1)) })
	for _, index := range places(len(run.list) / 5) {
		add(func(s *sent) { s.r.Hashes = slices.Delete(s.r.Hashes, index, index+1) })
		add(func(s *sent) { s.r.Hashes[index] += hashes })
		add(func(s *sent) { s.r.Hashes[index] = -1 })
	}
	for _, index := range places(len(run.list)) {
		for _, x := range []input{{Steer: 2}, {Power: -1}, {Power: powerGo, Pause: true}} {
			add(func(s *sent) { s.r.Inputs[index] = x })
		}
	}
	return list
}

// levelFaults returns faults by which the level is invalid or another one.
func levelFaults() []fault {
	var list []fault
	add := func(spoil func(s *sent)) { list = append(list, fault{wrongLevel, spoil}) }
	for _, step := range []int{1, 50, 99} {
		add(func(s *sent) { s.l.Id = (s.l.Id + step) % 100 })
		add(func(s *sent) { s.r.Level = (s.l.Id + step) % 100 })
	}
	add(func(s *sent) { s.l.Id += 256 })
	add(func(s *sent) { s.l.Id = -1 })
	for _, n := range []int{-1, 0, maxTicks + 1} {
		add(func(s *sent) { s.l.Ticks = n })
	}
	for _, n := range []int{-1, 4} {
		add(func(s *sent) { s.l.Bans = n })
	}
	far := pointBox(vec{X: 500000, Y: 500000})
	add(func(s *sent) { s.l.Start = vec{X: maxCoordinate + 1} })
	add(func(s *sent) { s.l.Finish = boxOf(1, 0, 0, 0) })
	add(func(s *sent) { s.l.Walls = slices.Concat(s.l.Walls, []box{pointBox(s.l.Start)}) })
	add(func(s *sent) { s.l.Walls = slices.Concat(s.l.Walls, []box{boxOf(600001, 0, 600000, 0)}) })
	add(func(s *sent) { s.l.Walls = slices.Repeat([]box{far}, maxWalls+1) })
	add(func(s *sent) { s.l.Gates = slices.Repeat([]box{far}, maxGates+1) })
	add(func(s *sent) { s.l.Gates = []box{boxOf(0, 1, 0, 0)} })
	add(func(s *sent) { s.l = level{} })
	return list
}

// keyFaults returns faults of the key, of which the tag is right.
func keyFaults() []fault {
	var list []fault
	for _, key := range outsideKeys() {
		list = append(list, fault{wrongKey, func(s *sent) { s.key = key }})
	}
	return list
}

func tagFaults() []fault {
	var list []fault
	for _, step := range []int{1, hashes / 2, hashes - 1} {
		list = append(list, fault{wrongTag, func(s *sent) { s.tagStep = step }})
	}
	return list
}

// inputFaults returns faults by which valid inputs are not legal any more.
func inputFaults(run honestRun) []fault {
	var list []fault
	add := func(spoil func(s *sent)) { list = append(list, fault{wrongInput, spoil}) }
	many := len(run.list)
	for _, index := range places(many) {
		add(func(s *sent) { s.r.Inputs[index], s.l.Bans = brake(), banBrake })
		add(func(s *sent) { s.r.Inputs[index], s.l.Bans = pause(), banPause })
		if index > 0 {
			add(func(s *sent) { s.r.Inputs[index-1], s.r.Inputs[index] = steer(1), steer(-1) })
		}
	}
	if many > 1 {
		add(func(s *sent) { s.l.Ticks = many - 1 })
	}
	if many > maxPauses {
		add(func(s *sent) { s.l.Bans = copy(s.r.Inputs, pauses(4)) - 4 })
		add(func(s *sent) { s.l.Bans = copy(s.r.Inputs[many-4:], pauses(4)) - 4 })
	}
	return list
}

// hashFaults returns faults of the claimed hashes.
func hashFaults(run honestRun) []fault {
	var list []fault
	many := len(run.list) / 5
	for _, index := range places(many) {
		for _, step := range []int{1, hashes - 1} {
			list = append(list, fault{wrongHash, func(s *sent) { s.r.Hashes[index] = (s.r.Hashes[index] + step) % hashes }})
		}
	}
	if many > 0 {
		list = append(list, fault{wrongHash, func(s *sent) { s.r.Hashes = counted(many) }})
	}
	return list
}

// scoreFaults returns faults of the claimed score.
func scoreFaults(run honestRun) []fault {
	score := max(impl.RunScore(run.l, run.list), 0)
	var list []fault
	for _, n := range []int{score - 1, score + 1, 0, maxTicks} {
		if n != score && isAmong(n, 0, maxTicks) {
			list = append(list, fault{wrongScore, func(s *sent) { s.r.Score = n }})
		}
	}
	return list
}

// faultsOf returns all faults that the replay of a run can have, by their
// verdicts.
func faultsOf(run honestRun) [][]fault {
	list := [][]fault{textFaults(run), levelFaults(), keyFaults(), tagFaults(), inputFaults(run), hashFaults(run), scoreFaults(run)}
	return slices.DeleteFunc(list, func(faults []fault) bool { return len(faults) == 0 })
}

func TestConstantsOfChapter31(t *testing.T) {
	got := []int{
		impl.VerdictFine, impl.VerdictText, impl.VerdictLevel, impl.VerdictKey, impl.VerdictTag,
		impl.VerdictInput, impl.VerdictRange, impl.VerdictHash, impl.VerdictOpen, impl.VerdictScore,
	}
	if !slices.Equal(got, counted(10)) {
		t.Errorf("the verdicts are %v", got)
	}
}

func TestVerifyRows(t *testing.T) {
	road := withBans(withTicks(roadLevel(), maxTicks), 0)
	paused := slices.Concat(pauses(3), drives(5))
	rows := []struct {
		l       level
		key     int
		r       replay
		verdict int
	}{
		{laneLevel(1), 1, replay{Level: 1, Player: 0, Score: 1, Inputs: drives(1), Tag: 79626}, fine},
		{laneLevel(5), 7, replay{Level: 1, Player: 2, Score: 5, Inputs: drives(5), Hashes: []int{968955}, Tag: 249908}, fine},
		{laneLevel(7), 9999, replay{Level: 1, Player: 9, Score: 7, Inputs: drives(7), Hashes: []int{968954}, Tag: 835168}, fine},
		{laneLevel(20), 17, replay{Level: 1, Player: 3, Score: 20, Inputs: drives(20), Hashes: []int{968954, 39305, 878975, 718643}, Tag: 807672}, fine},
		{roadLevel(), 8190, replay{Level: 1, Player: 1, Score: 7, Inputs: drives(7), Hashes: []int{977145}, Tag: 134038}, fine},
		{road, 4321, replay{Level: 1, Player: 4, Score: 12, Inputs: busyRun()[:12], Hashes: []int{199549, 402610}, Tag: 100912}, fine},
		{laneLevel(5), 300, replay{Level: 1, Player: 8, Score: 8, Inputs: paused, Hashes: []int{309869}, Tag: 140382}, fine},
		{road, 4321, replay{Level: 1, Player: 4, Score: 12, Inputs: busyRun(), Hashes: []int{199549, 402610, 670333, 670333}, Tag: 74239}, wrongOpen},
		{laneLevel(5), 7, replay{Level: 1, Player: 2, Score: 5, Inputs: drives(12), Hashes: []int{968955, 968955}, Tag: 952762}, wrongOpen},
		{laneLevel(5), 5, replay{Level: 1, Player: 0, Score: 0, Tag: 870560}, wrongOpen},
		{openLevel(), 100, replay{Level: 1, Player: 5, Score: 0, Inputs: drives(20), Hashes: []int{968954, 39305, 878975, 718642}, Tag: 702802}, wrongOpen},
		{edgeLevel(), 2, replay{Level: 1, Player: 6, Score: 0, Inputs: drives(3), Tag: 358920}, wrongRange},
		{edgeLevel(), 2, replay{Level: 1, Player: 6, Score: 0, Inputs: drives(11), Hashes: []int{247243, 247243}, Tag: 814576}, wrongRange},
	}
	for _, row := range rows {
		checkVerdict(t, row.l, row.key, row.r, row.verdict)
		checkMade(t, row.l, row.r.Player, row.key, row.r.Inputs, row.r, true)
		checkTick(t, row.l, row.r, -1)
		checkVerdict(t, row.l, row.key, withTag(row.r, row.r.Tag-1), wrongTag)
		checkVerdict(t, row.l, row.key, withTag(row.r, row.r.Tag+1), wrongTag)
		checkVerdict(t, row.l, row.key%9999+1, row.r, wrongTag)
	}
}

func TestHonestReplays(t *testing.T) {
	for _, run := range honestRuns() {
		for player := range players {
			for _, key := range hashedKeys() {
				want := madeByDefinition(run.l, player, key, run.list)
				checkMade(t, run.l, player, key, run.list, want, true)
				checkVerdict(t, run.l, key, want, run.verdict)
			}
		}
		checkTick(t, run.l, madeByDefinition(run.l, 3, 5, run.list), -1)
	}
}

func TestEachFaultAlone(t *testing.T) {
	for _, run := range honestRuns() {
		for _, faults := range faultsOf(run) {
			for _, f := range faults {
				checkFaults(t, run, f)
				s := sentWith(run, f)
				checkVerdict(t, s.l, s.key, s.r, verdictByDefinition(s.l, s.key, s.r))
				checkTick(t, s.l, s.r, tickByDefinition(s.l, s.r))
			}
		}
	}
}

func TestEachTwoFaults(t *testing.T) {
	for _, run := range honestRuns() {
		faults := faultsOf(run)
		for index, earlier := range faults {
			for _, f := range earlier {
				for _, later := range faults[index+1:] {
					for _, g := range later {
						checkFaults(t, run, f, g)
					}
				}
			}
		}
	}
}

// One fault of each verdict, in all ways to have some of them at once.
func TestAllSetsOfFaults(t *testing.T) {
	for round := range 3 {
		for _, run := range honestRuns() {
			faults := faultsOf(run)
			for set := range 1 << len(faults) {
				var list []fault
				for index, alike := range faults {
					if set>>index&1 == 1 {
						list = append(list, alike[(7*round+set)%len(alike)])
					}
				}
				checkFaults(t, run, list...)
			}
		}
	}
}

func TestVerdictsWithAllKeys(t *testing.T) {
	run := honestRuns()[2]
	for key := 1; key <= maxKey; key++ {
		checkVerdict(t, run.l, key, madeByDefinition(run.l, 2, key, run.list), fine)
	}
	for _, f := range keyFaults() {
		s := sentWith(run, f)
		checkVerdict(t, s.l, s.key, s.r, wrongKey)
		// Without a key, there is no right tag.
		for _, tag := range []int{0, 1, s.r.Tag, hashes - 1} {
			checkVerdict(t, s.l, s.key, withTag(s.r, tag), wrongKey)
		}
		checkVerdict(t, s.l, s.key, withTag(s.r, -1), wrongText)
	}
}

func TestVerdictsInInvalidLevels(t *testing.T) {
	for _, l := range append(invalidLevels(), level{}) {
		for _, list := range [][]input{nil, drives(1), drives(7)} {
			r := withReplayInputs(replay{Level: l.Id, Player: 1}, list)
			want := wrongLevel
			if !isAmong(l.Id, 0, 99) {
				want = wrongText
				checkVerdict(t, l, 7, signed(withReplayInputs(replay{Level: 1}, list), 7), wrongLevel)
				checkTick(t, l, withReplayInputs(replay{Level: 1}, list), -1)
			}
			checkVerdict(t, l, 7, signed(r, 7), want)
			checkTick(t, l, r, -1)
			checkNotMade(t, l, 1, 7, list)
		}
	}
}

func TestVerdictsOnInvalidReplays(t *testing.T) {
	for _, run := range honestRuns() {
		for _, bad := range invalidReplays(madeByDefinition(run.l, 2, 7, run.list)) {
			checkVerdict(t, run.l, 7, bad, wrongText)
			checkVerdict(t, level{}, 0, bad, wrongText)
			checkVerdict(t, withNumber(run.l, bad.Level), 7, bad, wrongText)
			checkTick(t, run.l, bad, -1)
			checkTick(t, withNumber(run.l, bad.Level), bad, -1)
		}
	}
}

// All scores but the true one are wrong.
func TestAllScores(t *testing.T) {
	for _, run := range honestRuns() {
		for score := range maxTicks + 1 {
			r := madeByDefinition(run.l, 2, 7, run.list)
			want := run.verdict
			if r.Score != score && want == fine {
				want = wrongScore
			}
			r.Score = score
			checkVerdict(t, run.l, 7, signed(r, 7), want)
			checkTick(t, run.l, r, -1)
		}
	}
}

// The finish is at each tick, and the inputs end at all ticks around it.
func TestReplaysAroundTheFinish(t *testing.T) {
	for finish := 1; finish <= maxTicks; finish++ {
		l := withTicks(laneLevel(finish), maxTicks)
		for many := max(finish-6, 0); many <= min(finish+6, maxTicks); many++ {
			r := madeByDefinition(l, 2, 7, drives(many))
			want := wrongOpen
			if many == finish {
				want = fine
			}
			checkVerdict(t, l, 7, r, want)
			for _, score := range []int{finish, many} {
				r.Score = score
				checkVerdict(t, l, 7, signed(r, 7), want)
			}
			checkTick(t, l, r, -1)
		}
	}
}

func TestEachWrongHash(t *testing.T) {
	for _, run := range honestRuns() {
		right := madeByDefinition(run.l, 2, 7, run.list)
		want := wrongHash
		if run.verdict == wrongRange {
			want = wrongRange
		}
		for index := range right.Hashes {
			for _, hash := range []int{0, 1, (right.Hashes[index] + 1) % hashes, hashes - 1} {
				r := signed(withHashes(right, changedAt(right.Hashes, index, hash)...), 7)
				checkVerdict(t, run.l, 7, r, want)
				checkTick(t, run.l, r, 5*index)
				// The first one counts.
				r = signed(withHashes(r, slices.Concat(r.Hashes[:index+1], repeated(0, len(r.Hashes)-index-1))...), 7)
				checkVerdict(t, run.l, 7, r, want)
				checkTick(t, run.l, r, 5*index)
			}
		}
	}
}

// An input that is not legal counts even if hashes are wrong ahead of it.
func TestTicksOfIllegalInputs(t *testing.T) {
	for _, run := range honestRuns() {
		for index := range run.list {
			r := madeByDefinition(run.l, 2, 7, run.list)
			r.Inputs[index] = brake()
			l := withBans(run.l, banBrake)
			first := slices.Index(r.Inputs, brake())
			for _, other := range []replay{r, withHashes(r, counted(len(r.Hashes))...), withTag(r, 0)} {
				checkTick(t, l, other, first)
				checkVerdict(t, l, 7, signed(other, 7), wrongInput)
			}
		}
	}
	for ticks := 1; ticks < maxTicks; ticks++ {
		l := withTicks(laneLevel(5), ticks)
		for _, many := range []int{ticks + 1, maxTicks} {
			r := withReplayInputs(replay{Level: 1}, drives(many))
			checkTick(t, l, r, ticks)
			checkVerdict(t, l, 7, signed(r, 7), wrongInput)
		}
	}
}

func TestTickRows(t *testing.T) {
	right := []int{968954, 39305, 878975, 718642}
	jump := func(index int) []input {
		list := drives(20)
		list[index-1], list[index] = steer(-1), steer(1)
		return list
	}
	rows := []struct {
		list    []input
		claimed []int
		want    int
	}{
		{nil, nil, -1}, {drives(4), nil, -1}, {drives(20), right, -1}, {drives(19), right[:3], -1},
		{drives(20), []int{0, 39305, 878975, 718642}, 0}, {drives(20), []int{968954, 0, 878975, 718642}, 5},
		{drives(20), []int{968954, 39305, 0, 718642}, 10}, {drives(20), []int{968954, 39305, 878975, 0}, 15},
		{drives(20), []int{968954, 0, 0, 718642}, 5}, {drives(20), []int{39305, 968954, 878975, 718642}, 0}, {drives(20), repeated(0, 4), 0},
		{drives(9), []int{7}, 0}, {drives(14), []int{968954, 7}, 5},
		{jump(1), right, 1}, {jump(2), right, 2}, {jump(19), right, 19}, {jump(19), repeated(0, 4), 19}, {jump(7), []int{0, 0, 878975, 718642}, 7},
		{pauses(4), nil, 3}, {slices.Concat(pauses(3), drives(16), pauses(1)), repeated(0, 4), 19}, {drives(21), repeated(0, 4), 20}, {drives(60), repeated(0, 12), 20},
		// Of such a replay nothing is right, so it does not go wrong anywhere.
		{drives(20), right[:3], -1}, {drives(20), append(slices.Clone(right), 0), -1}, {append(drives(19), steer(2)), right, -1}, {drives(61), repeated(0, 12), -1},
	}
	for _, row := range rows {
		r := replay{Level: 1, Inputs: row.list, Hashes: row.claimed}
		checkTick(t, openLevel(), r, row.want)
		checkTick(t, openLevel(), replay{Level: 1, Player: 9, Score: 60, Inputs: row.list, Hashes: row.claimed, Tag: 1000002}, row.want)
		checkTick(t, withNumber(openLevel(), 2), r, -1)
		checkTick(t, withTicks(openLevel(), 0), r, -1)
	}
}

// drawnSent returns a replay of a run which is often wrong in some ways.
func drawnSent(draw *rand.Rand, l level, list []input) sent {
	run := honestRun{l: l, list: list}
	var faults []fault
	for _, alike := range faultsOf(run) {
		if draw.Intn(12) == 0 {
			faults = append(faults, alike[draw.Intn(len(alike))])
		}
	}
	s := sentWith(run, faults...)
	switch draw.Intn(8) {
	case 0:
		s.r.Player = (s.r.Player + 1) % 10
	case 1:
		s.l = withBans(s.l, draw.Intn(4))
	case 2:
		s.l.Ticks = 1 + draw.Intn(maxTicks)
	case 3:
		s.l.Finish = pointBox(s.l.Start)
	}
	return s
}

// eachSent calls check with replays that are right or wrong in all kinds of
// ways.
func eachSent(check func(l level, key int, r replay)) {
	draw := rand.New(rand.NewSource(51))
	for range 3 {
		eachDrive(func(l level, list []input) {
			s := drawnSent(draw, l, list)
			check(s.l, s.key, s.r)
		})
	}
	for _, run := range honestRuns() {
		for range 20 {
			s := drawnSent(draw, run.l, run.list)
			check(s.l, s.key, s.r)
		}
	}
}

func TestVerdictsByDefinition(t *testing.T) {
	verdicts := make([]int, 10)
	ticks := map[bool]int{}
	eachSent(func(l level, key int, r replay) {
		want := verdictByDefinition(l, key, r)
		checkVerdict(t, l, key, r, want)
		verdicts[want]++
		tick := tickByDefinition(l, r)
		checkTick(t, l, r, tick)
		ticks[tick == -1]++
	})
	if slices.Min(verdicts) < 20 || ticks[false] < 100 || ticks[true] < 100 {
		t.Errorf("the verdicts come up so often: %v; a replay goes wrong at a tick or not: %v", verdicts, ticks)
	}
}

func TestMadeByDefinition(t *testing.T) {
	draw := rand.New(rand.NewSource(52))
	eachDrive(func(l level, list []input) {
		player, key := draw.Intn(players), 1+drawnIn(draw, maxKey-1)
		checkMade(t, l, player, key, list, madeByDefinition(l, player, key, list), true)
	})
}

func TestMadeForPlayersAndKeys(t *testing.T) {
	for _, run := range honestRuns()[:12] {
		for _, player := range outsideOf(0, players-1) {
			checkNotMade(t, run.l, player, 7, run.list)
			checkNotMade(t, run.l, player, 0, run.list)
			checkNotMade(t, run.l, player, 7, append(slices.Clone(run.list), steer(2)))
		}
		for _, key := range outsideKeys() {
			checkNotMade(t, run.l, 2, key, run.list)
			checkNotMade(t, run.l, -1, key, run.list)
			checkNotMade(t, run.l, 2, key, append(slices.Clone(run.list), steer(2)))
		}
		for _, player := range []int{0, players - 1} {
			for _, key := range []int{1, maxKey} {
				checkMade(t, run.l, player, key, run.list, madeByDefinition(run.l, player, key, run.list), true)
			}
		}
	}
}

func TestMadeOfNoRuns(t *testing.T) {
	eachDrive(func(l level, list []input) {
		for _, bad := range noRuns(l, list) {
			checkNotMade(t, l, 2, 7, bad)
		}
	})
	for ticks := 1; ticks <= maxTicks; ticks++ {
		l := withTicks(laneLevel(3), ticks)
		checkMade(t, l, 2, 7, drives(ticks), madeByDefinition(l, 2, 7, drives(ticks)), true)
		checkNotMade(t, l, 2, 7, drives(ticks+1))
		checkNotMade(t, l, 2, 7, rolls(ticks+1))
		checkNotMade(t, l, 2, 7, rolls(ticks+256))
	}
	checkNotMade(t, openLevel(), 2, 7, rolls(300000))
	checkNotMade(t, withBans(openLevel(), banPause), 2, 7, pauses(1))
	checkNotMade(t, openLevel(), 2, 7, pauses(4))
}

func TestMadeOfNoInputs(t *testing.T) {
	behind := append(drives(2), steer(2))
	for _, l := range []level{laneLevel(5), withFinish(openLevel(), pointBox(vec{})), edgeLevel(), withNumber(roadLevel(), 0), fullLevel()} {
		for _, empty := range [][]input{nil, {}, make([]input, 0, 9), behind[:0]} {
			want := signed(replay{Level: l.Id, Player: 3}, 5)
			checkMade(t, l, 3, 5, empty, want, true)
			want.Inputs = empty
			for _, none := range [][]int{nil, {}, counted(4)[:0]} {
				checkVerdict(t, l, 5, withHashes(want, none...), wrongOpen)
				checkTick(t, l, withHashes(want, none...), -1)
			}
		}
	}
}

// What is behind the end of a slice is part of nothing.
func TestWhatIsBehindTheReplayIsIgnored(t *testing.T) {
	list := append(drives(5), steer(2), pause())
	want := replay{Level: 1, Player: 2, Score: 5, Inputs: drives(5), Hashes: []int{968955}, Tag: 249908}
	checkMade(t, laneLevel(5), 2, 7, list[:5], want, true)
	checkNotMade(t, laneLevel(5), 2, 7, list[:6])
	want.Inputs, want.Hashes = list[:5], []int{968955, -7}[:1]
	checkVerdict(t, laneLevel(5), 7, want, fine)
	checkTick(t, laneLevel(5), want, -1)
}

func TestNames(t *testing.T) {
	for verdict, name := range []string{"fine", "text", "level", "key", "tag", "input", "range", "hash", "open", "score"} {
		checkName(t, verdict, name)
	}
	for _, verdict := range append(outsideOf(0, 9), -9, -10, 10, 11, 12, 13, 14, 99, 1000) {
		checkName(t, verdict, "")
	}
}

func TestVerifyLeavesItsArguments(t *testing.T) {
	draw := rand.New(rand.NewSource(53))
	for _, run := range honestRuns() {
		for range 20 {
			s := drawnSent(draw, run.l, run.list)
			// What is behind the slices in memory is not touched either.
			walls, gates := slices.Concat(s.l.Walls, []box{boxOf(1, 2, 3, 4)}), slices.Concat(s.l.Gates, []box{boxOf(11, 12, 13, 14)})
			inputs, claimed := slices.Concat(s.r.Inputs, alternating(100)), slices.Concat(s.r.Hashes, counted(200))
			wallsBefore, gatesBefore := slices.Clone(walls), slices.Clone(gates)
			inputsBefore, claimedBefore := slices.Clone(inputs), slices.Clone(claimed)
			l := withWalls(withGates(s.l, gates[:len(s.l.Gates)]...), walls[:len(s.l.Walls)]...)
			r := s.r
			r.Inputs, r.Hashes = inputs[:len(s.r.Inputs)], claimed[:len(s.r.Hashes)]
			impl.VerifyReplay(l, s.key, r)
			impl.VerifyTick(l, r)
			impl.ReplayMake(l, r.Player, s.key, r.Inputs)
			if !slices.Equal(walls, wallsBefore) || !slices.Equal(gates, gatesBefore) {
				t.Errorf("the walls or the gates of %v were changed", shownLevel(s.l))
			}
			if !slices.Equal(inputs, inputsBefore) || !slices.Equal(claimed, claimedBefore) {
				t.Errorf("the inputs or the hashes of %s were changed", shownReplay(s.r))
			}
		}
	}
}

// Neither of two results is changed by the other one, nor by the inputs, nor are
// these changed by a result, not even behind their ends.
func TestMadeReplaysHaveNewMemory(t *testing.T) {
	for _, run := range honestRuns() {
		want := madeByDefinition(run.l, 2, 7, run.list)
		list := slices.Concat(run.list, drives(9))
		before := slices.Clone(list)
		first, _ := impl.ReplayMake(run.l, 2, 7, list[:len(run.list)])
		for range 2 {
			other, _ := impl.ReplayMake(run.l, 2, 7, list[:len(run.list)])
			overwrite(other.Inputs, steer(7))
			overwrite(other.Hashes, -7)
		}
		if !slices.Equal(list, before) {
			t.Errorf("what is written to a result changes %s", shownInputs(before))
		}
		overwrite(list, steer(7))
		if !sameReplay(first, want) {
			t.Errorf("what is written elsewhere is found in %s, which was %s", shownReplay(first), shownReplay(want))
		}
	}
}

func TestVerifyKeepsNoState(t *testing.T) {
	right := madeByDefinition(laneLevel(5), 2, 7, drives(5))
	for range 3 {
		checkVerdict(t, laneLevel(5), 7, right, fine)
		checkVerdict(t, laneLevel(5), 7, replay{Score: -1}, wrongText)
		checkVerdict(t, laneLevel(5), 0, right, wrongKey)
		checkVerdict(t, laneLevel(5), 8, right, wrongTag)
		checkVerdict(t, laneLevel(4), 7, right, wrongHash)
		checkVerdict(t, laneLevel(5), 7, right, fine)
		checkTick(t, laneLevel(4), right, 0)
		checkTick(t, laneLevel(5), right, -1)
		checkMade(t, laneLevel(5), 2, 7, drives(5), right, true)
		checkNotMade(t, laneLevel(5), 2, 7, drives(21))
		checkName(t, 4, "tag")
		checkName(t, 10, "")
	}
}

func TestVerifyLeavesNothingRunning(t *testing.T) {
	before := runtime.NumGoroutine()
	for range 20 {
		for _, run := range honestRuns() {
			for _, faults := range faultsOf(run) {
				s := sentWith(run, faults[0])
				impl.VerifyReplay(s.l, s.key, s.r)
				impl.VerifyTick(s.l, s.r)
				impl.ReplayMake(s.l, s.r.Player, s.key, s.r.Inputs)
			}
		}
	}
	checkNoneRunning(t, before)
}

func TestVerifyAtTheSameTime(t *testing.T) {
	var group sync.WaitGroup
	for range 8 {
		group.Add(1)
		go func() {
			defer group.Done()
			for _, run := range honestRuns() {
				want := madeByDefinition(run.l, 2, 7, run.list)
				checkMade(t, run.l, 2, 7, run.list, want, true)
				checkVerdict(t, run.l, 7, want, run.verdict)
				checkTick(t, run.l, want, -1)
			}
		}()
	}
	group.Wait()
}
