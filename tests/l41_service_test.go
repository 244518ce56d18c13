package tests

import (
	"fmt"
	"math/rand"
	"slices"
	"testing"

	"loop.example/replayverifier/impl"
)

type (
	service = impl.Service
	track   = impl.Track
)

const (
	maxLevels = impl.MaxLevels
	maxTexts  = impl.MaxTexts
)

func trackOf(l level, b []entry) track { return track{Level: l, Board: b} }

// withTracks returns a service with other tracks.
func withTracks(s service, tracks ...track) service {
	s.Tracks = tracks
	return s
}

// withKeys returns a service with other keys.
func withKeys(s service, keys ...int) service {
	s.Keys = keys
	return s
}

// withTags returns a service with other tags.
func withTags(s service, tags ...int) service {
	s.Tags = tags
	return s
}

// copyOfLevel returns a level with memory of its own.
func copyOfLevel(l level) level {
	return withWalls(withGates(l, slices.Clone(l.Gates)...), slices.Clone(l.Walls)...)
}

// copyOfService returns a service with memory of its own.
func copyOfService(s service) service {
	other := service{Keys: slices.Clone(s.Keys), Tags: slices.Clone(s.Tags)}
	for _, tr := range s.Tracks {
		other.Tracks = append(other.Tracks, trackOf(copyOfLevel(tr.Level), slices.Clone(tr.Board)))
	}
	return other
}

func sameLevel(a, b level) bool {
	return a.Id == b.Id && a.Ticks == b.Ticks && a.Start == b.Start && a.Finish == b.Finish && a.Bans == b.Bans &&
		slices.Equal(a.Walls, b.Walls) && slices.Equal(a.Gates, b.Gates)
}

func sameTrack(a, b track) bool {
	return sameLevel(a.Level, b.Level) && slices.Equal(a.Board, b.Board)
}

func sameService(a, b service) bool {
	return slices.EqualFunc(a.Tracks, b.Tracks, sameTrack) && slices.Equal(a.Keys, b.Keys) && slices.Equal(a.Tags, b.Tags)
}

// shownService shortens a service for a message.
func shownService(s service) string {
	shown := fmt.Sprintf("%d levels", len(s.Tracks))
	for _, tr := range s.Tracks[:min(len(s.Tracks), maxLevels+1)] {
		shown += fmt.Sprintf(" %v with %v,", shownLevel(tr.Level), shownBoard(tr.Board))
	}
	return shown + fmt.Sprintf(" %d keys %v, %d tags %v", len(s.Keys), s.Keys[:min(len(s.Keys), players+2)], len(s.Tags), s.Tags[:min(len(s.Tags), maxTexts+2)])
}

// sprintLevel returns a level with walls and a gate, in which a car finishes
// with its first drive.
func sprintLevel(number int) level {
	goal := pointBox(laneAt(1))
	l := withGates(withFinish(bareLevel(), goal), goal)
	l = withWalls(l, boxOf(-2000, 2000, 9000, 3000), pointBox(vec{X: -3000, Y: -1500}))
	return withNumber(withTicks(l, maxTicks), number)
}

// keyOf is the key that a player has in most services here.
func keyOf(player int) int { return 100 + player }

// allKeys returns the keys of all players.
func allKeys() []int {
	var keys []int
	for player := range players {
		keys = append(keys, keyOf(player))
	}
	return keys
}

// noKeys returns the keys of players who have none.
func noKeys() []int { return repeated(0, players) }

// busyService returns a service with a full board, an empty one and one between
// them; two players have no key.
func busyService() service {
	return service{
		Tracks: []track{trackOf(sprintLevel(3), fullBoard()), trackOf(sprintLevel(50), nil), trackOf(sprintLevel(98), boardOf(2, 5, 6, 5))},
		Keys:   []int{100, 101, 102, 103, 104, 105, 106, 107, 0, 0},
		Tags:   []int{7, hashes - 1, 0},
	}
}

// largestService returns a service with as much of everything as there may be.
func largestService() service {
	return service{
		Tracks: []track{
			trackOf(sprintLevel(0), fullBoard()), trackOf(withNumber(fullLevel(), 1), boardOf(6, 0, 7, 0, 8, 0, 9, 0)),
			trackOf(withNumber(roadLevel(), 98), boardOf(0, 60, 1, 60, 2, 60, 3, 60)), trackOf(sprintLevel(99), boardOf(9, 1, 0, 30, 5, 30, 1, 60)),
		},
		Keys: []int{1, 2, 7, 17, 8190, 8191, 1, 1, maxKey - 1, maxKey},
		Tags: append(counted(10), hashes-2, hashes-1),
	}
}

// services returns valid services of all kinds.
func services() []service {
	none := service{Keys: noKeys()}
	keyed := service{Keys: allKeys()}
	list := []service{
		none, {Tracks: []track{}, Keys: noKeys(), Tags: []int{}}, keyed, {Keys: repeated(maxKey, players)}, busyService(), largestService(),
		withTracks(none, trackOf(sprintLevel(0), nil)), withTracks(none, trackOf(sprintLevel(99), []entry{})), withTracks(none, trackOf(level{Ticks: 1}, nil), trackOf(level{Id: 1, Ticks: 1}, nil)),
		withTracks(keyed, trackOf(fullLevel(), fullBoard())), withTags(keyed, repeated(5, maxTexts)...), withTags(none, 0, hashes-1, 0),
	}
	// Each player has an entry on each board, where players without keys are.
	for player := range players {
		keys := noKeys()
		keys[player] = 1 + player
		s := withKeys(none, keys...)
		for number := range maxLevels {
			s.Tracks = append(s.Tracks, trackOf(sprintLevel(33*number), boardOf(player, 20*number)))
		}
		list = append(list, s)
	}
	draw := rand.New(rand.NewSource(71))
	for range 200 {
		list = append(list, drawnService(draw))
	}
	return list
}

// usedNumbers are the numbers of levels in services that are drawn.
func usedNumbers() []int { return []int{0, 1, 2, 3, 50, 97, 98, maxLevel} }

// drawnService returns a valid service with all kinds of numbers of levels, keys
// and tags.
func drawnService(draw *rand.Rand) service {
	s := service{Keys: noKeys()}
	for player := range s.Keys {
		if draw.Intn(4) > 0 {
			s.Keys[player] = 1 + drawnIn(draw, maxKey-1)
		}
	}
	for _, number := range usedNumbers() {
		if draw.Intn(3) > 0 || len(s.Tracks) == maxLevels {
			continue
		}
		l := append(baseLevels(), sprintLevel(0), sprintLevel(0))[draw.Intn(5)]
		b := slices.DeleteFunc(drawnBoard(draw), func(e entry) bool { return s.Keys[e.Player] == 0 })
		s.Tracks = append(s.Tracks, trackOf(withNumber(l, number), b))
	}
	for range drawnIn(draw, maxTexts) {
		s.Tags = append(s.Tags, drawnIn(draw, hashes-1))
	}
	return s
}

// spoiledKeys returns services that are like a valid one but for the keys.
func spoiledKeys(s service) []service {
	var list []service
	for many := range players {
		list = append(list, withKeys(s, s.Keys[:many]...))
	}
	for _, many := range []int{1, 2, 10, 256, 70000} {
		list = append(list, withKeys(s, append(slices.Clone(s.Keys), repeated(5, many)...)...), withKeys(s, append(slices.Clone(s.Keys), repeated(0, many)...)...))
	}
	for player := range players {
		for _, n := range outsideOf(0, maxKey) {
			list = append(list, withKeys(s, changedAt(s.Keys, player, n)...))
		}
	}
	// A player with an entry has no key.
	for _, tr := range s.Tracks {
		for _, e := range tr.Board {
			list = append(list, withKeys(s, changedAt(s.Keys, e.Player, 0)...))
		}
	}
	return list
}

// spoiledTags returns services that are like a valid one but for the tags.
func spoiledTags(s service) []service {
	var list []service
	for _, many := range []int{1, 2, 256, 70000} {
		list = append(list, withTags(s, repeated(0, maxTexts+many)...), withTags(s, counted(maxTexts+many)...))
	}
	for _, many := range []int{1, 2, maxTexts} {
		for _, index := range places(many) {
			for _, n := range outsideOf(0, hashes-1) {
				list = append(list, withTags(s, changedAt(counted(many), index, n)...))
			}
		}
	}
	return list
}

// numbered returns tracks with empty boards whose levels have these numbers.
func numbered(numbers ...int) []track {
	var tracks []track
	for _, n := range numbers {
		tracks = append(tracks, trackOf(sprintLevel(n), nil))
	}
	return tracks
}

// spoiledOrders returns services that are like a valid one but for the number or
// the order of the levels.
func spoiledOrders(s service) []service {
	var list []service
	for _, numbers := range [][]int{
		counted(5), {0, 10, 20, 30, 99}, {95, 96, 97, 98, 99}, counted(6), counted(100),
		{1, 0}, {99, 0}, {3, 3}, {0, 0}, {99, 99}, {0, 0, 1}, {0, 1, 1}, {0, 1, 0}, {1, 2, 0}, {2, 0, 1}, {0, 2, 1}, {0, 1, 2, 2}, {0, 1, 3, 2}, {1, 2, 3, 0}, {5, 5, 5, 5}, {9, 8, 7, 6},
	} {
		list = append(list, withTracks(s, numbered(numbers...)...))
	}
	for one := range s.Tracks {
		for other := range s.Tracks[:one] {
			swapped := slices.Clone(s.Tracks)
			swapped[one], swapped[other] = swapped[other], swapped[one]
			twice := slices.Clone(s.Tracks)
			twice[one] = twice[other]
			// Also if there is nothing else that both have in common.
			named := slices.Clone(s.Tracks)
			named[one].Level = withNumber(named[one].Level, named[other].Level.Id)
			list = append(list, withTracks(s, swapped...), withTracks(s, twice...), withTracks(s, named...))
		}
	}
	return list
}

// spoiledLevels returns services that are like a valid one but for one level.
func spoiledLevels(s service) []service {
	var list []service
	for index, bad := range invalidLevels() {
		for place, tr := range s.Tracks {
			// But for those whose number is wrong, the number is in order.
			if levelByDefinition(withNumber(bad, 0)) == levelByDefinition(bad) {
				bad = withNumber(bad, tr.Level.Id)
			}
			tracks := slices.Clone(s.Tracks)
			tracks[place].Level = bad
			list = append(list, withTracks(s, tracks...))
		}
		if index%2 == 0 {
			list = append(list, withTracks(s, trackOf(bad, nil)))
		}
	}
	return list
}

// spoiledBoardsOf returns services that are like a valid one but for one board.
func spoiledBoardsOf(s service) []service {
	var list []service
	for index, bad := range invalidBoards() {
		if len(s.Tracks) == 0 {
			break
		}
		tracks := slices.Clone(s.Tracks)
		tracks[index%len(tracks)].Board = bad
		list = append(list, withKeys(withTracks(s, tracks...), allKeys()...))
	}
	for place, tr := range s.Tracks {
		for player, key := range s.Keys {
			if key == 0 && len(tr.Board) < maxBoard {
				tracks := slices.Clone(s.Tracks)
				tracks[place].Board = append(slices.Clone(tr.Board), entryOf(player, maxTicks))
				list = append(list, withTracks(s, tracks...))
			}
		}
	}
	return list
}

// invalidServices returns services that are valid but for one thing.
func invalidServices() []service {
	list := []service{{}, {Keys: []int{}}, {Tracks: numbered(1)}, {Tags: []int{1}}}
	for _, s := range []service{{Keys: noKeys()}, {Keys: allKeys()}, busyService(), largestService()} {
		list = slices.Concat(list, spoiledKeys(s), spoiledTags(s), spoiledOrders(s), spoiledLevels(s), spoiledBoardsOf(s))
	}
	return list
}

// serviceByDefinition reports whether any service is valid.
func serviceByDefinition(s service) bool {
	if len(s.Tracks) > 4 || len(s.Keys) != 10 || len(s.Tags) > 12 {
		return false
	}
	for _, n := range s.Keys {
		if !isAmong(n, 0, 9999) {
			return false
		}
	}
	for _, n := range s.Tags {
		if !isAmong(n, 0, 1000002) {
			return false
		}
	}
	last := -1
	for _, tr := range s.Tracks {
		if !levelByDefinition(tr.Level) || !boardByDefinition(tr.Board) || tr.Level.Id <= last {
			return false
		}
		last = tr.Level.Id
		if slices.ContainsFunc(tr.Board, func(e entry) bool { return s.Keys[e.Player] == 0 }) {
			return false
		}
	}
	return true
}

// trackByDefinition returns the index of the track of a level, or -1.
func trackByDefinition(s service, number int) int {
	return slices.IndexFunc(s.Tracks, func(tr track) bool { return tr.Level.Id == number })
}

// withLevelByDefinition returns any service with a further level.
func withLevelByDefinition(s service, l level) (service, bool) {
	switch {
	case !serviceByDefinition(s) || !levelByDefinition(l):
		return service{}, false
	case trackByDefinition(s, l.Id) != -1 || len(s.Tracks) == 4:
		return s, false
	}
	tracks := append(slices.Clone(s.Tracks), trackOf(l, nil))
	slices.SortFunc(tracks, func(a, b track) int { return a.Level.Id - b.Level.Id })
	return withTracks(s, tracks...), true
}

// withKeyByDefinition returns any service with a further key.
func withKeyByDefinition(s service, player, key int) (service, bool) {
	switch {
	case !serviceByDefinition(s) || !isAmong(player, 0, 9) || !isAmong(key, 1, 9999):
		return service{}, false
	case s.Keys[player] != 0:
		return s, false
	}
	return withKeys(s, changedAt(s.Keys, player, key)...), true
}

// revokedByDefinition returns any service without a player.
func revokedByDefinition(s service, player int) (service, int) {
	if !serviceByDefinition(s) || !isAmong(player, 0, 9) {
		return service{}, -1
	}
	many := 0
	after := withKeys(copyOfService(s), changedAt(s.Keys, player, 0)...)
	for place, tr := range s.Tracks {
		after.Tracks[place].Board = removedByDefinition(tr.Board, player)
		many += len(tr.Board) - len(after.Tracks[place].Board)
	}
	return after, many
}

// topByDefinition returns the board of a level in any service.
func topByDefinition(s service, number int) ([]entry, bool) {
	place := trackByDefinition(s, number)
	if !serviceByDefinition(s) || place == -1 {
		return nil, false
	}
	return s.Tracks[place].Board, true
}

func checkService(t *testing.T, s service, want bool) {
	t.Helper()
	if got := impl.ServiceValid(s); got != want {
		t.Errorf("ServiceValid(%s) = %v, want %v", shownService(s), got, want)
	}
}

func checkNew(t *testing.T, keys []int, want service, wantOk bool) {
	t.Helper()
	if got, ok := impl.ServiceNew(keys); !sameService(got, want) || ok != wantOk {
		t.Errorf("ServiceNew(%v) = %s, %v, want %s, %v", shown(keys), shownService(got), ok, shownService(want), wantOk)
	}
}

func checkRegistered(t *testing.T, s service, l level, want service, wantOk bool) {
	t.Helper()
	if got, ok := impl.ServiceLevel(s, l); !sameService(got, want) || ok != wantOk {
		t.Errorf("ServiceLevel(%s, %v) = %s, %v, want %s, %v", shownService(s), shownLevel(l), shownService(got), ok, shownService(want), wantOk)
	}
}

func checkKeyed(t *testing.T, s service, player, key int, want service, wantOk bool) {
	t.Helper()
	if got, ok := impl.ServiceKey(s, player, key); !sameService(got, want) || ok != wantOk {
		t.Errorf("ServiceKey(%s, %d, %d) = %s, %v, want %s, %v", shownService(s), player, key, shownService(got), ok, shownService(want), wantOk)
	}
}

func checkSubmitted(t *testing.T, s service, text string, want service, wantVerdict int) {
	t.Helper()
	if got, verdict := impl.ServiceSubmit(s, text); !sameService(got, want) || verdict != wantVerdict {
		t.Errorf("ServiceSubmit(%s) of %s = %s, %d, want %s, %d", shownService(s), shownText(text), shownService(got), verdict, shownService(want), wantVerdict)
	}
}

func checkRevoked(t *testing.T, s service, player int, want service, wantMany int) {
	t.Helper()
	if got, many := impl.ServiceRevoke(s, player); !sameService(got, want) || many != wantMany {
		t.Errorf("ServiceRevoke(%s, %d) = %s, %d, want %s, %d", shownService(s), player, shownService(got), many, shownService(want), wantMany)
	}
}

func checkTop(t *testing.T, s service, number int, want []entry, wantOk bool) {
	t.Helper()
	if got, ok := impl.ServiceTop(s, number); !slices.Equal(got, want) || ok != wantOk {
		t.Errorf("ServiceTop(%s, %d) = %v, %v, want %v, %v", shownService(s), number, got, ok, want, wantOk)
	}
}

// checkNoService checks what the functions return for a service that is invalid.
func checkNoService(t *testing.T, s service) {
	t.Helper()
	checkService(t, s, false)
	for _, l := range []level{sprintLevel(51), sprintLevel(3), {}} {
		checkRegistered(t, s, l, service{}, false)
	}
	for _, player := range []int{-1, 0, 2, 8, players - 1, players} {
		checkKeyed(t, s, player, 7, service{}, false)
		checkKeyed(t, s, player, 0, service{}, false)
		checkRevoked(t, s, player, service{}, -1)
	}
	for _, number := range []int{-1, 0, 1, 3, 50, 98, 99, 100} {
		checkTop(t, s, number, nil, false)
	}
	checkSubmitted(t, s, "", service{}, -1)
	checkSubmitted(t, s, "replay 1 2 5\ninputs 4 5\nhashes 968955\ntag 249908\n", service{}, -1)
}

func TestConstantsOfChapter41(t *testing.T) {
	if maxLevels != 4 || maxTexts != 12 {
		t.Errorf("MaxLevels is %d and MaxTexts is %d", maxLevels, maxTexts)
	}
	got := []int{impl.VerdictAgain, impl.VerdictWorse, impl.VerdictBelow, impl.VerdictFull}
	if !slices.Equal(got, []int{10, 11, 12, 13}) {
		t.Errorf("the verdicts of the service are %v", got)
	}
}

// A track embeds its level, so that it has all that the level has.
func TestTracksHaveWhatTheirLevelsHave(t *testing.T) {
	tr := trackOf(fullLevel(), fullBoard())
	if tr.Id != maxLevel || tr.Ticks != maxTicks || len(tr.Walls) != maxWalls || !sameLevel(tr.Level, fullLevel()) {
		t.Errorf("the track is %v", tr)
	}
}

func TestNewRows(t *testing.T) {
	rows := []struct {
		keys, want []int
	}{
		{nil, noKeys()}, {[]int{}, noKeys()}, {[]int{0}, noKeys()}, {[]int{1}, []int{1, 0, 0, 0, 0, 0, 0, 0, 0, 0}}, {[]int{9999}, []int{9999, 0, 0, 0, 0, 0, 0, 0, 0, 0}},
		{[]int{0, 0, 7}, []int{0, 0, 7, 0, 0, 0, 0, 0, 0, 0}}, {[]int{5, 5, 0, 6}, []int{5, 5, 0, 6, 0, 0, 0, 0, 0, 0}}, {repeated(0, 9), noKeys()}, {repeated(8, 9), []int{8, 8, 8, 8, 8, 8, 8, 8, 8, 0}},
		{repeated(0, 10), noKeys()}, {allKeys(), allKeys()}, {repeated(9999, 10), repeated(9999, 10)}, {[]int{9, 8, 7, 6, 5, 4, 3, 2, 1, 0}, []int{9, 8, 7, 6, 5, 4, 3, 2, 1, 0}},
	}
	for _, row := range rows {
		checkNew(t, row.keys, service{Keys: row.want}, true)
	}
	for _, keys := range [][]int{
		{-1}, {10000}, {0, -1}, {10000, 0}, {7, -7}, {1, 2, 10000, 3}, append(repeated(5, 9), -1), append(repeated(5, 9), 10000),
		repeated(0, 11), repeated(1, 11), append(allKeys(), 0), append(allKeys(), 7), append(allKeys(), -1), repeated(0, 12), repeated(0, 20), repeated(0, 266), repeated(7, 70000),
	} {
		checkNew(t, keys, service{}, false)
	}
}

func TestNewWithEachKey(t *testing.T) {
	for many := 1; many <= players; many++ {
		for _, player := range places(many) {
			for _, key := range []int{0, 1, 2, 5000, maxKey - 1, maxKey} {
				keys := changedAt(repeated(3, many), player, key)
				checkNew(t, keys, service{Keys: append(slices.Clone(keys), noKeys()[many:]...)}, true)
			}
			for _, key := range outsideOf(0, maxKey) {
				checkNew(t, changedAt(repeated(3, many), player, key), service{}, false)
				checkNew(t, changedAt(noKeys()[:many], player, key), service{}, false)
			}
		}
	}
	for key := -2; key <= maxKey+2; key++ {
		if isAmong(key, 0, 9999) {
			checkNew(t, []int{key}, service{Keys: changedAt(noKeys(), 0, key)}, true)
		} else {
			checkNew(t, []int{key}, service{}, false)
		}
	}
}

func TestValidServices(t *testing.T) {
	for _, s := range services() {
		checkService(t, s, true)
	}
	for _, l := range levels() {
		checkService(t, service{Tracks: []track{trackOf(l, nil)}, Keys: noKeys()}, true)
	}
	for many := range maxLevels + 1 {
		checkService(t, service{Tracks: numbered(counted(many)...), Keys: noKeys()}, true)
		checkService(t, service{Tracks: numbered([]int{96, 97, 98, 99}[:many]...), Keys: noKeys()}, true)
	}
	for many := range maxTexts + 1 {
		checkService(t, service{Keys: noKeys(), Tags: repeated(hashes-1, many)}, true)
	}
}

func TestInvalidServices(t *testing.T) {
	for _, s := range invalidServices() {
		checkNoService(t, s)
	}
}

// All boards of some players, of which each one has a key or not.
func TestBoardsOfPlayersWithKeys(t *testing.T) {
	eachBoard(func(b []entry) {
		with := noKeys()
		for _, e := range b {
			with[e.Player] = 1
		}
		s := service{Tracks: []track{trackOf(sprintLevel(7), b)}, Keys: with}
		checkService(t, s, true)
		for _, e := range b {
			checkService(t, withKeys(s, changedAt(with, e.Player, 0)...), false)
			checkService(t, withKeys(s, changedAt(repeated(5, players), e.Player, 0)...), false)
		}
	})
}

func TestServicesByDefinition(t *testing.T) {
	draw := rand.New(rand.NewSource(72))
	valid := map[bool]int{}
	for range 5000 {
		s := drawnService(draw)
		switch draw.Intn(6) {
		case 0:
			s.Keys = append(s.Keys[:draw.Intn(players)], s.Keys...)
		case 1:
			s.Keys[draw.Intn(players)] = 0
		case 2:
			s.Tags = append(s.Tags, counted(draw.Intn(maxTexts+1))...)
		case 3:
			s.Tracks = append(s.Tracks, numbered(usedNumbers()[draw.Intn(8)])...)
		case 4:
			draw.Shuffle(len(s.Tracks), func(i, j int) { s.Tracks[i], s.Tracks[j] = s.Tracks[j], s.Tracks[i] })
		}
		want := serviceByDefinition(s)
		valid[want]++
		if want {
			checkService(t, s, true)
		} else {
			checkNoService(t, s)
		}
	}
	if valid[true] < 1000 || valid[false] < 1000 {
		t.Errorf("services are valid or not so often: %v", valid)
	}
}

func TestLevelRows(t *testing.T) {
	first, second, third := busyService().Tracks[0], busyService().Tracks[1], busyService().Tracks[2]
	rows := []struct {
		number int
		want   []track
	}{
		{0, []track{trackOf(sprintLevel(0), nil), first, second, third}}, {2, []track{trackOf(sprintLevel(2), nil), first, second, third}},
		{4, []track{first, trackOf(sprintLevel(4), nil), second, third}}, {49, []track{first, trackOf(sprintLevel(49), nil), second, third}},
		{51, []track{first, second, trackOf(sprintLevel(51), nil), third}}, {97, []track{first, second, trackOf(sprintLevel(97), nil), third}},
		{99, []track{first, second, third, trackOf(sprintLevel(99), nil)}},
	}
	for _, row := range rows {
		checkRegistered(t, busyService(), sprintLevel(row.number), withTracks(busyService(), row.want...), true)
		checkRegistered(t, withTracks(busyService(), row.want...), sprintLevel(row.number), withTracks(busyService(), row.want...), false)
	}
	for _, number := range []int{3, 50, 98} {
		checkRegistered(t, busyService(), sprintLevel(number), busyService(), false)
		// The number counts, whatever else is in the level.
		for _, l := range baseLevels() {
			checkRegistered(t, busyService(), withNumber(l, number), busyService(), false)
		}
	}
	for _, number := range []int{-1, 100, 256 + 3} {
		checkRegistered(t, busyService(), sprintLevel(number), service{}, false)
	}
}

// All numbers, with no levels up to as many as there may be.
func TestLevelsWithAllNumbers(t *testing.T) {
	for _, tracks := range [][]track{nil, numbered(0), numbered(57), numbered(99), numbered(0, 99), numbered(20, 21, 22), numbered(20, 40, 60, 80), numbered(0, 1, 98, 99)} {
		s := withTracks(service{Keys: allKeys(), Tags: counted(3)}, tracks...)
		for number := -2; number <= maxLevel+2; number++ {
			want, ok := withLevelByDefinition(s, sprintLevel(number))
			checkRegistered(t, s, sprintLevel(number), want, ok)
			if known := trackByDefinition(s, number) != -1; ok != (isAmong(number, 0, 99) && !known && len(tracks) < 4) {
				t.Errorf("a level with the number %d is registered: %v", number, ok)
			}
		}
	}
}

func TestLevelsOneTooMany(t *testing.T) {
	for _, s := range []service{largestService(), {Tracks: numbered(10, 20, 30, 40), Keys: noKeys()}} {
		for number := range maxLevel + 1 {
			checkRegistered(t, s, sprintLevel(number), s, false)
			checkRegistered(t, s, withNumber(fullLevel(), number), s, false)
		}
		checkRegistered(t, s, level{}, service{}, false)
	}
}

func TestInvalidLevelsAreNotRegistered(t *testing.T) {
	for _, bad := range append(invalidLevels(), level{}) {
		for _, s := range []service{{Keys: noKeys()}, busyService(), largestService()} {
			checkRegistered(t, s, bad, service{}, false)
		}
	}
}

func TestLevelsByDefinition(t *testing.T) {
	draw := rand.New(rand.NewSource(73))
	list, registered := levels(), map[bool]int{}
	for _, s := range services() {
		for range 10 {
			l := list[draw.Intn(len(list))]
			if draw.Intn(2) == 0 {
				l = withNumber(l, usedNumbers()[draw.Intn(8)])
			}
			want, ok := withLevelByDefinition(s, l)
			registered[ok]++
			checkRegistered(t, s, l, want, ok)
		}
	}
	if registered[true] < 500 || registered[false] < 500 {
		t.Errorf("levels are registered or not so often: %v", registered)
	}
}

func TestKeyRows(t *testing.T) {
	for _, key := range []int{1, 2, 100, maxKey - 1, maxKey} {
		checkKeyed(t, busyService(), 8, key, withKeys(busyService(), 100, 101, 102, 103, 104, 105, 106, 107, key, 0), true)
		checkKeyed(t, busyService(), 9, key, withKeys(busyService(), 100, 101, 102, 103, 104, 105, 106, 107, 0, key), true)
		for player := range 8 {
			checkKeyed(t, busyService(), player, key, busyService(), false)
			checkKeyed(t, busyService(), player, keyOf(player), busyService(), false)
		}
	}
	for _, key := range []int{0, -1, maxKey + 1} {
		for player := range players {
			checkKeyed(t, busyService(), player, key, service{}, false)
		}
	}
	for _, player := range []int{-1, players} {
		checkKeyed(t, busyService(), player, 7, service{}, false)
		checkKeyed(t, busyService(), player, 0, service{}, false)
	}
}

func TestKeysOfAllPlayers(t *testing.T) {
	for _, s := range []service{{Keys: noKeys()}, {Keys: allKeys()}, busyService(), largestService()} {
		for player := range players {
			for _, key := range hashedKeys() {
				want, ok := withKeyByDefinition(s, player, key)
				checkKeyed(t, s, player, key, want, ok)
			}
			for _, key := range outsideKeys() {
				checkKeyed(t, s, player, key, service{}, false)
			}
		}
		for _, player := range outsideOf(0, players-1) {
			for _, key := range []int{1, 7, maxKey, 0} {
				checkKeyed(t, s, player, key, service{}, false)
			}
		}
	}
	for key := 1; key <= maxKey; key++ {
		checkKeyed(t, service{Keys: noKeys()}, 5, key, service{Keys: changedAt(noKeys(), 5, key)}, true)
		checkKeyed(t, service{Keys: changedAt(noKeys(), 5, key)}, 5, key%maxKey+1, service{Keys: changedAt(noKeys(), 5, key)}, false)
	}
}

func TestRevokeRows(t *testing.T) {
	three, ninetyEight := fullBoard(), boardOf(2, 5, 6, 5)
	rows := []struct {
		player, many       int
		three, ninetyEight []entry
	}{
		{0, 1, boardOf(4, 10, 2, 20, 7, 20), ninetyEight}, {1, 0, three, ninetyEight}, {2, 2, boardOf(4, 10, 7, 20, 0, 30), boardOf(6, 5)}, {3, 0, three, ninetyEight},
		{4, 1, boardOf(2, 20, 7, 20, 0, 30), ninetyEight}, {5, 0, three, ninetyEight}, {6, 1, three, boardOf(2, 5)}, {7, 1, boardOf(4, 10, 2, 20, 0, 30), ninetyEight},
		{8, 0, three, ninetyEight}, {9, 0, three, ninetyEight},
	}
	for _, row := range rows {
		want := withKeys(busyService(), changedAt(busyService().Keys, row.player, 0)...)
		want.Tracks[0].Board, want.Tracks[2].Board = row.three, row.ninetyEight
		checkRevoked(t, busyService(), row.player, want, row.many)
		checkRevoked(t, want, row.player, want, 0)
		checkKeyed(t, want, row.player, 7, withKeys(want, changedAt(want.Keys, row.player, 7)...), true)
	}
	for _, player := range outsideOf(0, players-1) {
		checkRevoked(t, busyService(), player, service{}, -1)
		checkRevoked(t, service{Keys: noKeys()}, player, service{}, -1)
	}
}

func TestRevokedByDefinition(t *testing.T) {
	removed := map[int]int{}
	for _, s := range services() {
		for player := range players {
			want, many := revokedByDefinition(s, player)
			checkRevoked(t, s, player, want, many)
			removed[many]++
		}
	}
	if removed[0] < 500 || removed[1] < 100 || removed[2] < 20 || removed[3] < 5 || removed[4] < 10 {
		t.Errorf("so many entries are removed so often: %v", removed)
	}
}

// Once all players are revoked, nothing but levels and tags is left.
func TestAllPlayersRevoked(t *testing.T) {
	draw := rand.New(rand.NewSource(74))
	for _, s := range services() {
		want := withKeys(copyOfService(s), noKeys()...)
		entries := 0
		for place, tr := range s.Tracks {
			entries += len(tr.Board)
			want.Tracks[place].Board = nil
		}
		after := s
		for _, player := range draw.Perm(players) {
			many := 0
			after, many = impl.ServiceRevoke(after, player)
			entries -= many
		}
		if !sameService(after, want) || entries != 0 {
			t.Errorf("without any player, %s becomes %s; %d entries are not counted", shownService(s), shownService(after), entries)
		}
	}
}

func TestTopRows(t *testing.T) {
	checkTop(t, busyService(), 3, boardOf(4, 10, 2, 20, 7, 20, 0, 30), true)
	checkTop(t, busyService(), 50, nil, true)
	checkTop(t, busyService(), 98, boardOf(2, 5, 6, 5), true)
	for _, number := range append(outsideOf(0, maxLevel), 0, 1, 2, 4, 49, 51, 97, 99, 256+3, 3-256, 1<<32+50) {
		checkTop(t, busyService(), number, nil, false)
		checkTop(t, service{Keys: noKeys()}, number, nil, false)
	}
	for _, s := range services() {
		for number := -2; number <= maxLevel+2; number++ {
			want, ok := topByDefinition(s, number)
			checkTop(t, s, number, want, ok)
		}
	}
}
