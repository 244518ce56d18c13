package tests

import (
	"math/rand"
	"slices"
	"strings"
	"testing"

	"loop.example/replayverifier/impl"
)

// Why a service refuses a replay that is right, in the order in which this is
// looked for.
const (
	knownReplay = iota + 10
	worseReplay
	lowReplay
	noSpace
)

// sprint returns the inputs of a run in a sprintLevel with a score from 1 on.
func sprint(score int) []input { return append(rolls(score-1), drive()) }

// sprintOf returns the replay of such a run.
func sprintOf(number, player, score int) replay {
	return madeByDefinition(sprintLevel(number), player, keyOf(player), sprint(score))
}

// sprintText returns the text of such a replay.
func sprintText(number, player, score int) string {
	return textByDefinition(sprintOf(number, player, score))
}

// sprintService returns a service without tags, with one level with a board,
// where all players have keys.
func sprintService(number int, b []entry) service {
	return service{Tracks: []track{trackOf(sprintLevel(number), b)}, Keys: allKeys()}
}

// withBoard returns a service with another board at an index.
func withBoard(s service, place int, b []entry) service {
	tracks := slices.Clone(s.Tracks)
	tracks[place].Board = b
	return withTracks(s, tracks...)
}

// otherTags returns so many tags that no test here gives to a replay.
func otherTags(many int) []int {
	var tags []int
	for n := range many {
		tags = append(tags, 77*n)
	}
	return tags
}

// enteredByDefinition returns any service after a replay in the level at an
// index, and the verdict.
func enteredByDefinition(s service, place int, r replay) (service, int) {
	tr := s.Tracks[place]
	if verdict := verdictByDefinition(tr.Level, s.Keys[r.Player], r); verdict != fine {
		return s, verdict
	}
	b, code := addedByDefinition(tr.Board, entryOf(r.Player, r.Score))
	switch {
	case slices.Contains(s.Tags, r.Tag):
		return s, knownReplay
	case code == boardWorse:
		return s, worseReplay
	case code == boardBelow:
		return s, lowReplay
	case len(s.Tags) == 12:
		return s, noSpace
	}
	return withTags(withBoard(s, place, b), append(slices.Clone(s.Tags), r.Tag)...), fine
}

// submittedByDefinition returns any service after any text, and the verdict.
func submittedByDefinition(s service, text string) (service, int) {
	if !serviceByDefinition(s) {
		return service{}, -1
	}
	r, ok := replayOfText(text)
	if !ok {
		return s, wrongText
	}
	place := trackByDefinition(s, r.Level)
	if place == -1 {
		return s, wrongLevel
	}
	return enteredByDefinition(s, place, r)
}

// submit returns the service after a text that has a verdict by the definition
// that is given.
func submit(t *testing.T, s service, text string, wantVerdict int) service {
	t.Helper()
	want, verdict := submittedByDefinition(s, text)
	if verdict != wantVerdict {
		t.Errorf("by the definition, %s has the verdict %d on %s, not %d", shownService(s), verdict, shownText(text), wantVerdict)
	}
	checkSubmitted(t, s, text, want, verdict)
	after, _ := impl.ServiceSubmit(s, text)
	return after
}

func TestSubmitRows(t *testing.T) {
	lane := service{Tracks: []track{trackOf(laneLevel(5), nil)}, Keys: []int{5, 5, 7, 0, 5, 5, 5, 5, 5, 5}}
	text := "replay 1 2 5\ninputs 4 5\nhashes 968955\ntag 249908\n"
	done := withTags(withBoard(lane, 0, boardOf(2, 5)), 249908)
	rows := []struct {
		s       service
		text    string
		want    service
		verdict int
	}{
		{lane, text, done, fine}, {done, text, done, knownReplay},
		{lane, "", lane, wrongText}, {lane, "\n", lane, wrongText}, {lane, text + "\n", lane, wrongText}, {lane, text[:len(text)-1], lane, wrongText}, {lane, " " + text, lane, wrongText},
		{lane, strings.Replace(text, "replay 1", "replay 01", 1), lane, wrongText}, {lane, strings.Replace(text, "4 5", "4 4 4 1", 1), lane, wrongText}, {lane, strings.Replace(text, " 968955", "", 1), lane, wrongText},
		{lane, strings.Replace(text, "replay 1 2", "replay 1 10", 1), lane, wrongText}, {lane, strings.Replace(text, "replay 1 2", "replay 100 2", 1), lane, wrongText}, {lane, strings.Replace(text, "249908", "1000003", 1), lane, wrongText},
		{lane, strings.Replace(text, "replay 1", "replay 2", 1), lane, wrongLevel}, {lane, strings.Replace(text, "replay 1", "replay 0", 1), lane, wrongLevel}, {withTracks(lane), text, withTracks(lane), wrongLevel},
		{lane, strings.Replace(text, "replay 1 2", "replay 1 3", 1), lane, wrongKey}, {withKeys(lane, noKeys()...), text, withKeys(lane, noKeys()...), wrongKey},
		{lane, strings.Replace(text, "249908", "249909", 1), lane, wrongTag}, {lane, strings.Replace(text, "replay 1 2", "replay 1 1", 1), lane, wrongTag}, {lane, strings.Replace(text, "replay 1 2 5", "replay 1 2 4", 1), lane, wrongTag},
		{withKeys(lane, repeated(8, 10)...), text, withKeys(lane, repeated(8, 10)...), wrongTag},
		{withTracks(lane, trackOf(withTicks(laneLevel(5), 4), nil)), text, withTracks(lane, trackOf(withTicks(laneLevel(5), 4), nil)), wrongInput},
		{withTracks(lane, trackOf(edgeLevel(), nil)), text, withTracks(lane, trackOf(edgeLevel(), nil)), wrongRange},
		{withTracks(lane, trackOf(laneLevel(4), nil)), text, withTracks(lane, trackOf(laneLevel(4), nil)), wrongHash},
		{lane, "replay 1 2 5\ninputs 4 12\nhashes 968955 968955\ntag 952762\n", lane, wrongOpen},
		{withBoard(lane, 0, boardOf(2, 5)), text, withBoard(lane, 0, boardOf(2, 5)), worseReplay}, {withBoard(lane, 0, boardOf(2, 4, 0, 9)), text, withBoard(lane, 0, boardOf(2, 4, 0, 9)), worseReplay},
		{withBoard(lane, 0, boardOf(0, 5, 1, 5, 4, 5, 5, 5)), text, withBoard(lane, 0, boardOf(0, 5, 1, 5, 4, 5, 5, 5)), lowReplay}, {withBoard(lane, 0, boardOf(0, 0, 1, 1, 4, 2, 5, 5)), text, withBoard(lane, 0, boardOf(0, 0, 1, 1, 4, 2, 5, 5)), lowReplay},
		{withTags(lane, counted(12)...), text, withTags(lane, counted(12)...), noSpace},
		{withTags(lane, counted(11)...), text, withTags(done, append(counted(11), 249908)...), fine},
		{withTags(lane, 7, 249908, 8), text, withTags(lane, 7, 249908, 8), knownReplay}, {withTags(lane, 249907, 249909), text, withTags(done, 249907, 249909, 249908), fine},
		{withBoard(lane, 0, boardOf(2, 6)), text, done, fine}, {withBoard(lane, 0, boardOf(0, 5, 1, 6)), text, withBoard(done, 0, boardOf(0, 5, 2, 5, 1, 6)), fine},
		{withBoard(lane, 0, boardOf(0, 5, 1, 5, 4, 5, 5, 6)), text, withBoard(done, 0, boardOf(0, 5, 1, 5, 4, 5, 2, 5)), fine}, {withBoard(lane, 0, boardOf(0, 5, 1, 6, 4, 7, 2, 8)), text, withBoard(done, 0, boardOf(0, 5, 2, 5, 1, 6, 4, 7)), fine},
	}
	for _, row := range rows {
		checkSubmitted(t, row.s, row.text, row.want, row.verdict)
		want, verdict := submittedByDefinition(row.s, row.text)
		if !sameService(want, row.want) || verdict != row.verdict {
			t.Errorf("by the definition, %s has the verdict %d on %s", shownService(row.s), verdict, shownText(row.text))
		}
	}
}

// The score is the last thing that VerifyReplay looks at.
func TestSubmitWithAnotherScore(t *testing.T) {
	for score := range maxTicks + 1 {
		r := sprintOf(3, 2, 9)
		r.Score = score
		want := wrongScore
		if score == 9 {
			want = fine
		}
		submit(t, sprintService(3, nil), textByDefinition(signed(r, keyOf(2))), want)
		// Also if nothing else would be in the way or everything would.
		if want != fine {
			submit(t, withTags(sprintService(3, boardOf(2, 0)), append(otherTags(11), signed(r, keyOf(2)).Tag)...), textByDefinition(signed(r, keyOf(2))), want)
		}
	}
}

// serviceFor returns a service with the level and the key of player 2, as far as
// these are valid, between other keys and levels to which the replay does not
// belong.
func serviceFor(s sent) service {
	around := slices.DeleteFunc([]int{0, 97}, func(n int) bool { return n == s.l.Id || n == s.r.Level })
	other := service{Tracks: numbered(around...), Keys: allKeys()}
	other.Keys[2] = 0
	if isAmong(s.key, 0, 9999) {
		other.Keys[2] = s.key
	}
	if levelByDefinition(s.l) {
		other, _ = withLevelByDefinition(other, s.l)
	}
	return other
}

func TestSubmitWithEachFaultAlone(t *testing.T) {
	for _, run := range honestRuns() {
		s := sentWith(run)
		submit(t, serviceFor(s), textByDefinition(s.r), run.verdict)
		for _, faults := range faultsOf(run) {
			for _, f := range faults {
				s := sentWith(run, f)
				submit(t, serviceFor(s), textByDefinition(s.r), firstVerdict(run, f))
			}
		}
	}
}

// placement is what a service has for player 2 who submits a replay, but for the
// level and the key.
type placement struct {
	known, full bool
	board       []entry
	verdict     int
}

// placements returns all ways in which a right replay with a score of 12 is
// refused or not, and which verdict comes first.
func placements() []placement {
	high, low, equal := boardOf(2, 60), boardOf(2, 1), boardOf(2, 12)
	crowd, mob := boardOf(0, 12, 9, 12, 5, 12, 7, 12), boardOf(4, 0, 5, 0, 6, 0, 7, 0)
	var list []placement
	for _, known := range []bool{false, true} {
		for _, full := range []bool{false, true} {
			last := fine
			if full {
				last = noSpace
			}
			list = append(list,
				placement{known, full, nil, last}, placement{known, full, high, last}, placement{known, full, boardOf(0, 12, 9, 12, 5, 12, 7, 13), last},
				placement{known, full, low, worseReplay}, placement{known, full, equal, worseReplay}, placement{known, full, boardOf(4, 0, 5, 0, 6, 0, 2, 12), worseReplay},
				placement{known, full, crowd, lowReplay}, placement{known, full, mob, lowReplay},
			)
		}
	}
	for index := range list {
		if list[index].known {
			list[index].verdict = knownReplay
		}
	}
	return list
}

// placed returns a service with a placement in a level, or in another one if it
// does not have this level.
func placed(s service, number int, p placement, tag int) service {
	s.Tags = otherTags(4)
	if p.full {
		s.Tags = otherTags(12)
	}
	if p.known {
		s.Tags = changedAt(s.Tags, len(s.Tags)/2, min(max(tag, 0), hashes-1))
	}
	return withBoard(s, max(trackByDefinition(s, number), 0), p.board)
}

// One fault of each verdict, in all ways to have some of them at once, together
// with all that the service looks at after that.
func TestSubmitWithAllSetsOfFaults(t *testing.T) {
	run := honestRun{sprintLevel(1), sprint(12), fine}
	faults := faultsOf(run)
	if len(faults) != 7 {
		t.Errorf("a replay can have only %d kinds of faults", len(faults))
	}
	verdicts := make([]int, 14)
	for round := range 4 {
		for set := range 1 << len(faults) {
			var list []fault
			for index, alike := range faults {
				if set>>index&1 == 1 {
					list = append(list, alike[(7*round+set)%len(alike)])
				}
			}
			sent := sentWith(run, list...)
			for _, p := range placements() {
				s := placed(serviceFor(sent), sent.l.Id, p, sent.r.Tag)
				// Without a key, the player is on no board.
				if !serviceByDefinition(s) {
					continue
				}
				want := p.verdict
				if len(list) > 0 {
					want = firstVerdict(run, list...)
				}
				verdicts[want]++
				submit(t, s, textByDefinition(sent.r), want)
			}
		}
	}
	for verdict, many := range verdicts {
		// Neither leaves this car the range, nor does it fail to finish.
		if many < 4 && verdict != wrongRange && verdict != wrongOpen {
			t.Errorf("the verdicts come up so often: %v", verdicts)
		}
	}
}

// The same for runs that leave the range or do not finish.
func TestSubmitRunsThatDoNotFinish(t *testing.T) {
	for _, run := range honestRuns() {
		if run.verdict == fine {
			continue
		}
		for _, p := range placements() {
			sent := sentWith(run)
			s := placed(serviceFor(sent), run.l.Id, p, sent.r.Tag)
			submit(t, s, textByDefinition(sent.r), run.verdict)
		}
	}
}

func TestSubmitInAllPlacements(t *testing.T) {
	for _, number := range []int{0, 1, 57, 99} {
		r := sprintOf(number, 2, 12)
		for _, p := range placements() {
			submit(t, placed(sprintService(number, nil), number, p, r.Tag), textByDefinition(r), p.verdict)
		}
	}
}

// The tag may be at any place among any number of tags.
func TestSubmitWithTheTagAtEachPlace(t *testing.T) {
	r := sprintOf(3, 2, 12)
	for many := range maxTexts + 1 {
		s := withTags(sprintService(3, nil), otherTags(many)...)
		want := fine
		if many == maxTexts {
			want = noSpace
		}
		submit(t, s, textByDefinition(r), want)
		for index := range many {
			for _, b := range [][]entry{nil, boardOf(2, 5), boardOf(2, 50), fullBoard()} {
				s := withTags(sprintService(3, b), changedAt(otherTags(many), index, r.Tag)...)
				submit(t, s, textByDefinition(r), knownReplay)
			}
			for _, near := range []int{r.Tag - 1, r.Tag + 1} {
				s := withTags(sprintService(3, nil), changedAt(otherTags(many), index, near)...)
				submit(t, s, textByDefinition(r), want)
			}
		}
	}
}

// The tag is all that counts: it may be known from another level, another player
// or another score.
func TestSubmitAfterAnotherReplayWithTheTag(t *testing.T) {
	seen := map[int]replay{}
	found := 0
	for player := range players {
		for number := range maxLevel + 1 {
			for score := 1; score <= 12; score++ {
				r := sprintOf(number, player, score)
				other, ok := seen[r.Tag]
				seen[r.Tag] = r
				if !ok || other.Level == r.Level || found == 5 {
					continue
				}
				found++
				tracks := numbered(min(other.Level, r.Level), max(other.Level, r.Level))
				after := submit(t, service{Tracks: tracks, Keys: allKeys()}, textByDefinition(other), fine)
				submit(t, after, textByDefinition(r), knownReplay)
			}
		}
	}
	if found < 2 {
		t.Errorf("only %d replays have the tag of another one", found)
	}
}

func TestSubmittedTwice(t *testing.T) {
	for score := 1; score <= maxTicks; score++ {
		text := sprintText(3, 2, score)
		after := submit(t, sprintService(3, boardOf(4, 10, 7, 20)), text, fine)
		for range 3 {
			after = submit(t, after, text, knownReplay)
		}
		after = submit(t, after, sprintText(3, 5, score), fine)
		after = submit(t, after, text, knownReplay)
		submit(t, after, sprintText(3, 5, score), knownReplay)
	}
}

// An entry that a better one of the player has replaced.
func TestSubmittedTwiceWithABetterOneBetween(t *testing.T) {
	s := sprintService(3, nil)
	s = submit(t, s, sprintText(3, 2, 20), fine)
	s = submit(t, s, sprintText(3, 2, 21), worseReplay)
	s = submit(t, s, sprintText(3, 2, 10), fine)
	s = submit(t, s, sprintText(3, 2, 20), knownReplay)
	s = submit(t, s, sprintText(3, 2, 15), worseReplay)
	s = submit(t, s, sprintText(3, 2, 10), knownReplay)
	checkTop(t, s, 3, boardOf(2, 10), true)
	// What was refused is not known: it is refused for the same reason.
	s = submit(t, s, sprintText(3, 2, 21), worseReplay)
	s, _ = impl.ServiceRevoke(s, 2)
	s, _ = impl.ServiceKey(s, 2, keyOf(2))
	s = submit(t, s, sprintText(3, 2, 21), fine)
	s = submit(t, s, sprintText(3, 2, 20), knownReplay)
	s = submit(t, s, sprintText(3, 2, 15), fine)
	s = submit(t, s, sprintText(3, 2, 10), knownReplay)
	checkTop(t, s, 3, boardOf(2, 15), true)
}

// An entry that dropped out of a full board.
func TestSubmittedTwiceAfterTheBoardHasLostIt(t *testing.T) {
	s := submit(t, sprintService(3, nil), sprintText(3, 9, 30), fine)
	for player := range maxBoard {
		s = submit(t, s, sprintText(3, player, 20-player), fine)
	}
	checkTop(t, s, 3, boardOf(3, 17, 2, 18, 1, 19, 0, 20), true)
	s = submit(t, s, sprintText(3, 9, 30), knownReplay)
	s = submit(t, s, sprintText(3, 9, 31), lowReplay)
	s = submit(t, s, sprintText(3, 9, 20), lowReplay)
	// There is room again, also for what was below before.
	s, _ = impl.ServiceRevoke(s, 1)
	s = submit(t, s, sprintText(3, 9, 30), knownReplay)
	s = submit(t, s, sprintText(3, 9, 31), fine)
	s = submit(t, s, sprintText(3, 9, 20), fine)
	submit(t, s, sprintText(3, 9, 30), knownReplay)
}

func TestSubmittedTwiceWithThePlayerRevokedBetween(t *testing.T) {
	text := sprintText(3, 2, 12)
	s := submit(t, sprintService(3, boardOf(4, 10)), text, fine)
	s, many := impl.ServiceRevoke(s, 2)
	if many != 1 {
		t.Errorf("%d entries are removed", many)
	}
	s = submit(t, s, text, wrongKey)
	same, _ := impl.ServiceKey(s, 2, keyOf(2))
	submit(t, same, text, knownReplay)
	checkTop(t, same, 3, boardOf(4, 10), true)
	// Another run of the player is fine, and does not make the first one new.
	same = submit(t, same, sprintText(3, 2, 13), fine)
	submit(t, same, text, knownReplay)
	// With another key the text has a wrong tag, and the run is a new replay.
	other, _ := impl.ServiceKey(s, 2, 500)
	submit(t, other, text, wrongTag)
	fresh := textByDefinition(madeByDefinition(sprintLevel(3), 2, 500, sprint(12)))
	other = submit(t, other, fresh, fine)
	submit(t, other, fresh, knownReplay)
	submit(t, other, text, wrongTag)
}

// The same run in other levels, and of other players, is another replay.
func TestTheSameRunElsewhere(t *testing.T) {
	s := service{Tracks: numbered(0, 1, 50, 99), Keys: allKeys()}
	for _, number := range []int{50, 0, 99, 1} {
		for _, player := range []int{0, 9, 4} {
			s = submit(t, s, sprintText(number, player, 7), fine)
		}
	}
	for _, number := range []int{0, 1, 50, 99} {
		checkTop(t, s, number, boardOf(0, 7, 9, 7, 4, 7), true)
		for player := range players {
			want := noSpace
			if player == 0 || player == 9 || player == 4 {
				want = knownReplay
			}
			submit(t, s, sprintText(number, player, 7), want)
		}
	}
	if len(s.Tags) != maxTexts {
		t.Errorf("the tags are %v", s.Tags)
	}
}

// A service with one replay less than there may be, and with as many.
func TestTheLastReplay(t *testing.T) {
	s := service{Tracks: []track{trackOf(sprintLevel(3), fullBoard()), trackOf(sprintLevel(50), boardOf(5, 9))}, Keys: allKeys(), Tags: otherTags(maxTexts - 1)}
	worse, low := sprintText(3, 7, 20), sprintText(3, 8, 30)
	refusedToo := func(s service) {
		submit(t, s, worse, worseReplay)
		submit(t, s, sprintText(50, 5, 9), worseReplay)
		submit(t, s, low, lowReplay)
		submit(t, s, sprintText(3, 9, 60), lowReplay)
	}
	refusedToo(s)
	for _, text := range []string{sprintText(3, 7, 19), sprintText(3, 0, 29), sprintText(3, 5, 29), sprintText(50, 5, 8), sprintText(50, 9, 60), sprintText(50, 0, 1)} {
		after := submit(t, s, text, fine)
		if len(after.Tags) != maxTexts {
			t.Errorf("the tags are %v", after.Tags)
		}
		refusedToo(after)
		submit(t, after, text, knownReplay)
		for _, other := range []string{sprintText(3, 7, 18), sprintText(3, 8, 17), sprintText(3, 4, 9), sprintText(50, 5, 7), sprintText(50, 1, 60)} {
			submit(t, after, other, noSpace)
		}
		// Tags stay when their players are revoked, so there is no space again.
		left, _ := impl.ServiceRevoke(after, 7)
		submit(t, left, sprintText(50, 1, 60), noSpace)
		submit(t, left, sprintText(3, 7, 18), wrongKey)
	}
}

// As many replays as there may be come one after the other.
func TestReplaysUpToTheLastOne(t *testing.T) {
	s := sprintService(3, nil)
	var tags []int
	for many := range maxTexts {
		r := sprintOf(3, many%3, 40-many)
		tags = append(tags, r.Tag)
		s = submit(t, s, textByDefinition(r), fine)
	}
	if !slices.Equal(s.Tags, tags) {
		t.Errorf("the tags are %v, not %v", s.Tags, tags)
	}
	for many := range maxTexts {
		s = submit(t, s, sprintText(3, many%3, 40-many), knownReplay)
	}
	submit(t, s, sprintText(3, 0, 28), noSpace)
	submit(t, s, sprintText(3, 0, 41), worseReplay)
	submit(t, s, sprintText(3, 5, 28), noSpace)
}

func TestSubmitOfOtherTexts(t *testing.T) {
	for _, text := range slices.Concat(fewTexts(), inserted(sprintText(3, 2, 7), " "), inserted(sprintText(3, 2, 7), "\n"), inserted(sprintText(3, 2, 7), "0")) {
		for _, s := range []service{sprintService(3, nil), sprintService(3, fullBoard()), {Keys: noKeys()}, largestService()} {
			want, verdict := submittedByDefinition(s, text)
			checkSubmitted(t, s, text, want, verdict)
		}
	}
	for _, text := range []string{strings.Repeat("\n", 100000), strings.Repeat(sprintText(3, 2, 7), 1000), strings.Repeat("9", 100000), "\x00", "\xff\xfe"} {
		submit(t, sprintService(3, nil), text, wrongText)
		submit(t, largestService(), text, wrongText)
	}
}

// sessionService returns a service in which claims that are drawn meet all
// verdicts.
func sessionService(draw *rand.Rand) service {
	s := service{Keys: allKeys()}
	s.Tracks = []track{trackOf(sprintLevel(3), nil), trackOf(withNumber(edgeLevel(), 7), nil), trackOf(sprintLevel(50), nil)}
	s.Tags = otherTags(draw.Intn(6))
	for player := range players {
		if draw.Intn(6) == 0 {
			s.Keys[player] = 0
		}
	}
	return s
}

// drawnClaim returns the text of a replay that a service accepts, or refuses for
// any reason.
func drawnClaim(draw *rand.Rand, s service) string {
	number := append(usedNumbers(), 3, 3, 3, 50, 50, 7)[draw.Intn(14)]
	l := sprintLevel(number)
	if place := trackByDefinition(s, number); place != -1 {
		l = s.Tracks[place].Level
	}
	player, list := draw.Intn(players), sprint(1+draw.Intn(15))
	key := max(s.Keys[player], 1)
	switch draw.Intn(20) {
	case 0:
		key = key%maxKey + 1
	case 1:
		list = append(list, drive())
	case 2:
		list = slices.Concat([]input{steer(-1), steer(1)}, list)
	case 3, 4:
		list = drives(1 + draw.Intn(19))
	}
	r := madeByDefinition(l, player, key, list)
	switch draw.Intn(20) {
	case 0:
		r.Score = draw.Intn(maxTicks + 1)
		r = signed(r, key)
	case 1, 2:
		overwrite(r.Hashes, draw.Intn(hashes))
		r = signed(r, key)
	case 3:
		return drawnText(draw, textByDefinition(r))
	}
	return textByDefinition(r)
}

// eachSubmission calls check with services and with texts that are submitted to
// them, many of which are accepted.
func eachSubmission(check func(s service, text string)) {
	draw := rand.New(rand.NewSource(75))
	for range 200 {
		s := sessionService(draw)
		var texts []string
		for range 60 {
			text := drawnClaim(draw, s)
			if len(texts) > 0 && draw.Intn(8) == 0 {
				text = texts[draw.Intn(len(texts))]
			}
			texts = append(texts, text)
			check(s, text)
			s, _ = submittedByDefinition(s, text)
			switch draw.Intn(20) {
			case 0:
				s, _ = revokedByDefinition(s, draw.Intn(players))
			case 1:
				player := draw.Intn(players)
				if after, ok := withKeyByDefinition(s, player, keyOf(player)); ok {
					s = after
				}
			}
		}
	}
	for _, s := range services() {
		for range 5 {
			check(s, drawnClaim(draw, s))
		}
	}
}

func TestSubmittedByDefinition(t *testing.T) {
	verdicts := make([]int, 14)
	eachSubmission(func(s service, text string) {
		want, verdict := submittedByDefinition(s, text)
		checkSubmitted(t, s, text, want, verdict)
		verdicts[verdict]++
	})
	if slices.Min(verdicts) < 50 {
		t.Errorf("the verdicts come up so often: %v", verdicts)
	}
}

// All that can be drawn for a service is called one after the other, and what it
// has become is called again.
func TestManyCallsOfAService(t *testing.T) {
	draw := rand.New(rand.NewSource(76))
	for range 60 {
		s, ok := impl.ServiceNew(allKeys()[:draw.Intn(players+1)])
		if !ok {
			t.Errorf("ServiceNew fails")
		}
		for range 120 {
			player, number := draw.Intn(players), usedNumbers()[draw.Intn(8)]
			switch draw.Intn(12) {
			case 0:
				want, ok := withLevelByDefinition(s, sprintLevel(number))
				checkRegistered(t, s, sprintLevel(number), want, ok)
				s, _ = impl.ServiceLevel(s, sprintLevel(number))
			case 1, 2:
				key := keyOf(player) + draw.Intn(2)
				want, ok := withKeyByDefinition(s, player, key)
				checkKeyed(t, s, player, key, want, ok)
				s, _ = impl.ServiceKey(s, player, key)
			case 3:
				want, many := revokedByDefinition(s, player)
				checkRevoked(t, s, player, want, many)
				s, _ = impl.ServiceRevoke(s, player)
			case 4:
				want, ok := topByDefinition(s, number)
				checkTop(t, s, number, want, ok)
			default:
				text := drawnClaim(draw, s)
				want, verdict := submittedByDefinition(s, text)
				checkSubmitted(t, s, text, want, verdict)
				s, _ = impl.ServiceSubmit(s, text)
			}
			checkService(t, s, true)
		}
	}
}
