package tests

import (
	"math/rand"
	"runtime"
	"slices"
	"sync"
	"testing"

	"loop.example/replayverifier/impl"
)

// withRoom returns a list with something behind its end.
func withRoom[T any](list []T, behind T) []T {
	return slices.Concat(list, slices.Repeat([]T{behind}, 9))[:len(list)]
}

// roomyLevel returns a level whose walls and gates have room.
func roomyLevel(l level) level {
	return withWalls(withGates(l, withRoom(l.Gates, boxOf(1, 2, 3, 4))...), withRoom(l.Walls, boxOf(5, 6, 7, 8))...)
}

// roomy returns a service all of whose slices have room.
func roomy(s service) service {
	s = withTags(withKeys(s, withRoom(s.Keys, 17)...), withRoom(s.Tags, 19)...)
	tracks := slices.Clone(s.Tracks)
	for place, tr := range tracks {
		tracks[place] = trackOf(roomyLevel(tr.Level), withRoom(tr.Board, entryOf(1, 1)))
	}
	return withTracks(s, withRoom(tracks, trackOf(roomyLevel(sprintLevel(77)), boardOf(1, 2)))...)
}

// wholeLevel returns a level with all that is behind the ends of its slices.
func wholeLevel(l level) level {
	return withWalls(withGates(l, l.Gates[:cap(l.Gates)]...), l.Walls[:cap(l.Walls)]...)
}

// wholeOf returns a copy of a service with all that is behind the ends of its
// slices.
func wholeOf(s service) service {
	whole := service{Keys: s.Keys[:cap(s.Keys)], Tags: s.Tags[:cap(s.Tags)]}
	for _, tr := range s.Tracks[:cap(s.Tracks)] {
		whole.Tracks = append(whole.Tracks, trackOf(wholeLevel(tr.Level), tr.Board[:cap(tr.Board)]))
	}
	return copyOfService(whole)
}

// scribbles returns functions each of which overwrites one slice of a service,
// also behind its end. The one for the levels comes last, as it hides the others.
func scribbles(s service) []func() {
	list := []func(){func() { overwrite(s.Keys, -7) }, func() { overwrite(s.Tags, -7) }}
	for place := range s.Tracks {
		tr := &s.Tracks[place]
		list = append(list,
			func() { overwrite(tr.Level.Walls, boxOf(-7, -7, -7, -7)) }, func() { overwrite(tr.Level.Gates, boxOf(-7, -7, -7, -7)) },
			func() { overwrite(tr.Board, entryOf(-7, -7)) },
		)
	}
	return append(list, func() { overwrite(s.Tracks, track{}) })
}

// scribble overwrites all slices of a service.
func scribble(s service) {
	for _, write := range scribbles(s) {
		write()
	}
}

// serviceCalls returns functions that call the program with a service in all
// ways in which it returns something with memory.
func serviceCalls() []func(s service) service {
	list := []func(s service) service{
		func(s service) service { after, _ := impl.ServiceNew(s.Keys); return after },
		func(s service) service { after, _ := impl.ServiceLevel(s, level{}); return after },
		func(s service) service { after, _ := impl.ServiceSubmit(s, ""); return after },
	}
	for _, number := range usedNumbers() {
		list = append(list,
			func(s service) service { after, _ := impl.ServiceLevel(s, sprintLevel(number)); return after },
			func(s service) service {
				b, _ := impl.ServiceTop(s, number)
				return service{Tracks: []track{{Board: b}}}
			},
		)
	}
	for player := range players {
		list = append(list,
			func(s service) service { after, _ := impl.ServiceKey(s, player, 7); return after },
			func(s service) service { after, _ := impl.ServiceRevoke(s, player); return after },
		)
	}
	for _, text := range []string{sprintText(3, 2, 1), sprintText(50, 6, 5), sprintText(98, 2, 4), sprintText(98, 5, 7), sprintText(98, 8, 7), sprintText(98, 6, 60)} {
		list = append(list, func(s service) service { after, _ := impl.ServiceSubmit(s, text); return after })
	}
	return list
}

// memoryServices returns some services, in which the calls have all kinds of
// results; some of them are invalid.
func memoryServices() []service {
	draw := rand.New(rand.NewSource(77))
	list := []service{
		{Keys: noKeys()}, {Keys: allKeys()}, busyService(), withKeys(busyService(), allKeys()...), largestService(),
		withTags(busyService(), otherTags(maxTexts)...), sprintService(98, nil), sprintService(98, fullBoard()), sprintService(3, boardOf(2, 9)),
		{}, {Keys: repeated(5, 9)}, withTracks(busyService(), numbered(3, 3)...), withTags(busyService(), -1), withKeys(busyService(), noKeys()...),
	}
	for range 20 {
		list = append(list, drawnService(draw))
	}
	return list
}

func TestServicesLeaveTheirArguments(t *testing.T) {
	for _, s := range append(memoryServices(), invalidServices()[:300]...) {
		arg := roomy(s)
		before := wholeOf(arg)
		impl.ServiceValid(arg)
		for _, call := range serviceCalls() {
			call(arg)
		}
		if after := wholeOf(arg); !sameService(after, before) {
			t.Errorf("%s or what is behind it becomes %s", shownService(s), shownService(after))
		}
	}
}

func TestServicesLeaveTheirLevels(t *testing.T) {
	for _, s := range memoryServices() {
		for _, l := range append(baseLevels(), sprintLevel(5), sprintLevel(3), level{}) {
			arg := roomyLevel(l)
			before := copyOfLevel(wholeLevel(arg))
			impl.ServiceLevel(s, arg)
			if after := wholeLevel(arg); !sameLevel(after, before) {
				t.Errorf("the level %v or what is behind it becomes %v", shownLevel(l), shownLevel(after))
			}
		}
	}
}

// Neither is a service changed by what is written to a result, nor a result by
// what is written to the service or to another result, not even behind the ends.
func TestServicesHaveNewMemory(t *testing.T) {
	for _, s := range memoryServices() {
		for index, call := range serviceCalls() {
			arg := roomy(s)
			before := wholeOf(arg)
			first := call(arg)
			want := copyOfService(first)
			for range 2 {
				scribble(call(arg))
			}
			if after := wholeOf(arg); !sameService(after, before) {
				t.Errorf("what is written to the result of call %d changes %s to %s", index, shownService(s), shownService(after))
			}
			scribble(arg)
			if !sameService(first, want) {
				t.Errorf("what is written elsewhere after call %d is found in %s, which was %s", index, shownService(first), shownService(want))
			}
		}
	}
}

func TestRegisteredLevelsHaveNewMemory(t *testing.T) {
	for _, s := range memoryServices() {
		for _, l := range append(baseLevels(), sprintLevel(5), sprintLevel(3)) {
			arg := roomyLevel(l)
			before := copyOfLevel(wholeLevel(arg))
			first, _ := impl.ServiceLevel(s, arg)
			want := copyOfService(first)
			other, _ := impl.ServiceLevel(s, arg)
			scribble(other)
			if after := wholeLevel(arg); !sameLevel(after, before) {
				t.Errorf("what is written to a result changes the level %v to %v", shownLevel(l), shownLevel(after))
			}
			overwrite(arg.Walls, boxOf(-7, -7, -7, -7))
			overwrite(arg.Gates, boxOf(-7, -7, -7, -7))
			if !sameService(first, want) {
				t.Errorf("what is written to the level is found in %s, which was %s", shownService(first), shownService(want))
			}
		}
	}
}

// What is written to one slice of a result, also behind its end, is found in no
// other one, whatever the slices of the service have in common.
func TestResultsShareNoMemoryWithThemselves(t *testing.T) {
	walls, b := withRoom(sprintLevel(0).Walls, boxOf(1, 2, 3, 4)), withRoom(boardOf(2, 9), entryOf(6, 9))
	shared := service{Keys: allKeys()}
	for _, number := range []int{3, 50, 98} {
		l := withWalls(withGates(sprintLevel(number), walls[:1]...), walls...)
		shared.Tracks = append(shared.Tracks, trackOf(l, b))
	}
	shared.Tags = shared.Keys[:5]
	for _, s := range append(memoryServices(), shared) {
		for index, call := range serviceCalls() {
			for which := range scribbles(call(s)) {
				got := call(s)
				want := copyOfService(got)
				scribbles(got)[which]()
				scribbles(want)[which]()
				if !sameService(got, want) {
					t.Errorf("what is written to slice %d of the result of call %d on %s is found in another one: %s", which, index, shownService(s), shownService(got))
				}
			}
		}
	}
}

// A level whose walls and gates are the same memory.
func TestRegisteredLevelsShareNoMemoryWithThemselves(t *testing.T) {
	whole := []box{boxOf(5000, 0, 6000, 9), boxOf(5000, 10, 6000, 19), boxOf(5000, 20, 6000, 29), boxOf(5000, 30, 6000, 39)}
	l := withWalls(withGates(sprintLevel(5), whole[1:3]...), whole...)
	got, _ := impl.ServiceLevel(service{Keys: noKeys()}, l)
	overwrite(got.Tracks[0].Level.Gates, boxOf(-7, -7, -7, -7))
	if !slices.Equal(got.Tracks[0].Level.Walls, whole) {
		t.Errorf("what is written to the gates is found in the walls %v", got.Tracks[0].Level.Walls)
	}
}

// What is behind the end of a slice is part of nothing.
func TestWhatIsBehindTheServiceIsIgnored(t *testing.T) {
	text := sprintText(98, 7, 9)
	for _, s := range services() {
		arg := roomy(s)
		checkService(t, arg, true)
		checkRegistered(t, withTracks(arg, arg.Tracks[:0]...), sprintLevel(77), withTracks(s, trackOf(sprintLevel(77), nil)), true)
		checkTop(t, arg, 77, nil, false)
		for _, player := range []int{1, 7} {
			want, many := revokedByDefinition(s, player)
			checkRevoked(t, arg, player, want, many)
			want, ok := withKeyByDefinition(s, player, 7)
			checkKeyed(t, arg, player, 7, want, ok)
		}
		want, verdict := submittedByDefinition(s, text)
		checkSubmitted(t, arg, text, want, verdict)
	}
	// The tag of the replay is behind the tags, and its entry behind the board.
	s := withBoard(withTags(sprintService(98, nil), withRoom(nil, sprintOf(98, 7, 9).Tag)...), 0, withRoom(nil, entryOf(7, 9)))
	checkSubmitted(t, s, text, withTags(sprintService(98, boardOf(7, 9)), sprintOf(98, 7, 9).Tag), fine)
	// The keys of the last players are behind the keys.
	checkNoService(t, withKeys(s, allKeys()[:players-1]...))
	checkNew(t, allKeys()[:3], service{Keys: append(allKeys()[:3], repeated(0, 7)...)}, true)
}

func TestServicesKeepNoState(t *testing.T) {
	text := sprintText(3, 5, 9)
	done := withTags(withBoard(busyService(), 0, boardOf(5, 9, 4, 10, 2, 20, 7, 20)), 7, hashes-1, 0, sprintOf(3, 5, 9).Tag)
	for range 3 {
		checkSubmitted(t, busyService(), text, done, fine)
		checkSubmitted(t, busyService(), text, done, fine)
		checkSubmitted(t, done, text, done, knownReplay)
		checkSubmitted(t, busyService(), "", busyService(), wrongText)
		checkSubmitted(t, service{}, text, service{}, -1)
		checkRevoked(t, busyService(), 1, withKeys(busyService(), changedAt(busyService().Keys, 1, 0)...), 0)
		checkKeyed(t, busyService(), 9, 7, withKeys(busyService(), changedAt(busyService().Keys, 9, 7)...), true)
		checkKeyed(t, busyService(), 1, 7, busyService(), false)
		checkRegistered(t, busyService(), sprintLevel(50), busyService(), false)
		checkTop(t, busyService(), 3, fullBoard(), true)
		checkTop(t, busyService(), 4, nil, false)
		checkNew(t, nil, service{Keys: noKeys()}, true)
		checkNew(t, []int{-1}, service{}, false)
		checkService(t, busyService(), true)
		checkService(t, service{}, false)
	}
}

func TestServicesLeaveNothingRunning(t *testing.T) {
	before := runtime.NumGoroutine()
	for _, s := range memoryServices() {
		for _, call := range serviceCalls() {
			call(s)
		}
	}
	checkNoneRunning(t, before)
}

func TestServicesAtTheSameTime(t *testing.T) {
	s := roomy(withKeys(busyService(), allKeys()...))
	var group sync.WaitGroup
	for worker := range 8 {
		group.Add(1)
		go func() {
			defer group.Done()
			draw := rand.New(rand.NewSource(int64(worker)))
			for range 200 {
				text, player := drawnClaim(draw, s), draw.Intn(players)
				want, verdict := submittedByDefinition(s, text)
				checkSubmitted(t, s, text, want, verdict)
				want, many := revokedByDefinition(s, player)
				checkRevoked(t, s, player, want, many)
				want, ok := withLevelByDefinition(s, sprintLevel(player))
				checkRegistered(t, s, sprintLevel(player), want, ok)
			}
		}()
	}
	group.Wait()
}
