package tests

import (
	"math/rand"
	"slices"
	"testing"

	"loop.example/replayverifier/impl"
)

// serviceWith returns a new service with a level and the key of one player.
func serviceWith(t *testing.T, l level, player, key int) service {
	t.Helper()
	s, ok := impl.ServiceNew(changedAt(noKeys(), player, key))
	if !ok {
		t.Errorf("ServiceNew with the key %d of player %d fails", key, player)
	}
	s, ok = impl.ServiceLevel(s, l)
	if !ok {
		t.Errorf("ServiceLevel(%v) fails", shownLevel(l))
	}
	return s
}

// topOf returns the board of a level that a service has.
func topOf(t *testing.T, s service, number int) []entry {
	t.Helper()
	b, ok := impl.ServiceTop(s, number)
	if !ok {
		t.Errorf("ServiceTop(%s, %d) fails", shownService(s), number)
	}
	return b
}

// checkSameTops checks that all boards but that of one level are the same.
func checkSameTops(t *testing.T, s, after service, but int) {
	t.Helper()
	for number := range maxLevel + 1 {
		if number != but {
			want, ok := impl.ServiceTop(s, number)
			checkTop(t, after, number, want, ok)
		}
	}
}

// eachOutcome calls check with services, texts that are submitted to them, and
// what ServiceSubmit returns.
func eachOutcome(t *testing.T, check func(s service, text string, after service, verdict int)) {
	t.Helper()
	many := map[int]int{}
	eachSubmission(func(s service, text string) {
		after, verdict := impl.ServiceSubmit(s, text)
		many[verdict]++
		check(s, text, after, verdict)
	})
	for verdict := impl.VerdictFine; verdict <= impl.VerdictFull; verdict++ {
		if many[verdict] < 50 {
			t.Errorf("the verdicts come up so often: %v", many)
		}
	}
}

// eachAccepted calls check with services, the texts of replays that they accept,
// the replays, and the services after that.
func eachAccepted(t *testing.T, check func(s service, text string, r replay, after service)) {
	t.Helper()
	eachOutcome(t, func(s service, text string, after service, verdict int) {
		if verdict != impl.VerdictFine {
			return
		}
		r, ok := impl.ReplayDecode(text)
		if !ok {
			t.Errorf("%s is accepted, but is not the text of a replay", shownText(text))
		}
		check(s, text, r, after)
	})
}

// levelOf returns the level with a number that a service has.
func levelOf(s service, number int) (level, bool) {
	for _, tr := range s.Tracks {
		if tr.Level.Id == number {
			return tr.Level, true
		}
	}
	return level{}, false
}

func TestP159(t *testing.T) {
	draw := rand.New(rand.NewSource(81))
	for range 2000 {
		keys := make([]int, draw.Intn(players+1))
		for player := range keys {
			keys[player] = drawnIn(draw, maxKey)
		}
		s, ok := impl.ServiceNew(keys)
		if !ok || !impl.ServiceValid(s) || len(s.Tracks) != 0 || len(s.Tags) != 0 || len(s.Keys) != players {
			t.Errorf("ServiceNew(%v) = %s, %v", keys, shownService(s), ok)
			continue
		}
		for player, key := range s.Keys {
			if player < len(keys) && key != keys[player] || player >= len(keys) && key != 0 {
				t.Errorf("ServiceNew(%v) gives player %d the key %d", keys, player, key)
			}
		}
	}
}

func TestP160(t *testing.T) {
	many := 0
	for _, s := range services() {
		for number := range maxLevel + 1 {
			l := withNumber(fullLevel(), number)
			after, ok := impl.ServiceLevel(s, l)
			if !ok {
				continue
			}
			many++
			if !impl.ServiceValid(after) || !slices.Equal(after.Keys, s.Keys) || !slices.Equal(after.Tags, s.Tags) || len(after.Tracks) != len(s.Tracks)+1 {
				t.Errorf("with the level %d, %s becomes %s", number, shownService(s), shownService(after))
			}
			if b := topOf(t, after, number); len(b) != 0 {
				t.Errorf("the board of the new level %d is %v", number, b)
			}
			if got, ok := levelOf(after, number); !ok || !sameLevel(got, l) {
				t.Errorf("the new level %v is %v", shownLevel(l), shownLevel(got))
			}
			if many%10 == 0 {
				checkSameTops(t, s, after, number)
			}
		}
	}
	if many < 5000 {
		t.Errorf("only %d levels are registered", many)
	}
}

func TestP161(t *testing.T) {
	for _, s := range services() {
		for _, number := range append(usedNumbers(), 40, 60) {
			after, ok := impl.ServiceLevel(s, sprintLevel(number))
			if !ok {
				continue
			}
			for _, l := range append(baseLevels(), sprintLevel(0)) {
				checkRegistered(t, after, withNumber(l, number), after, false)
			}
		}
	}
}

func TestP162(t *testing.T) {
	many := 0
	for _, s := range services() {
		for player := range players {
			for _, key := range []int{1, 77, maxKey} {
				after, ok := impl.ServiceKey(s, player, key)
				if !ok {
					continue
				}
				many++
				if after.Keys[player] != key || !impl.ServiceValid(after) || !sameService(withKeys(after, changedAt(after.Keys, player, s.Keys[player])...), s) {
					t.Errorf("with the key %d of player %d, %s becomes %s", key, player, shownService(s), shownService(after))
				}
				for _, other := range []int{key, 1, maxKey} {
					checkKeyed(t, after, player, other, after, false)
				}
			}
		}
	}
	if many < 500 {
		t.Errorf("only %d keys are registered", many)
	}
}

func TestP163(t *testing.T) {
	eachAccepted(t, func(s service, text string, r replay, after service) {
		l, ok := levelOf(s, r.Level)
		if !ok {
			t.Errorf("%s is accepted in a level that is not known", shownReplay(r))
		}
		checkVerdict(t, l, s.Keys[r.Player], r, impl.VerdictFine)
		if impl.ReplayEncode(r) != text || !impl.ServiceValid(after) || !slices.Contains(topOf(t, after, r.Level), entryOf(r.Player, r.Score)) {
			t.Errorf("after %s, %s becomes %s", shownReplay(r), shownService(s), shownService(after))
		}
	})
}

func TestP164(t *testing.T) {
	eachAccepted(t, func(s service, text string, r replay, after service) {
		l, _ := levelOf(s, r.Level)
		score := impl.RunScore(l, r.Inputs)
		rank := impl.BoardRank(topOf(t, after, r.Level), r.Player)
		if rank < 1 || topOf(t, after, r.Level)[rank-1].Score != score || score != len(r.Inputs) {
			t.Errorf("%s with the true score %d leads to the board %v", shownReplay(r), score, topOf(t, after, r.Level))
		}
	})
}

func TestP165(t *testing.T) {
	eachOutcome(t, func(s service, text string, after service, verdict int) {
		if same := sameService(after, s); same != (verdict != impl.VerdictFine) {
			t.Errorf("with the verdict %d on %s, %s becomes %s", verdict, shownText(text), shownService(s), shownService(after))
		}
	})
}

func TestP166(t *testing.T) {
	eachAccepted(t, func(s service, text string, r replay, after service) {
		checkSubmitted(t, after, text, after, impl.VerdictAgain)
		// Also if anything else comes between.
		for player := range players {
			for _, other := range []string{sprintText(3, player, 1), sprintText(50, player, 1)} {
				after, _ = impl.ServiceSubmit(after, other)
			}
		}
		checkSubmitted(t, after, text, after, impl.VerdictAgain)
		for _, l := range []level{sprintLevel(0), sprintLevel(51), fullLevel()} {
			after, _ = impl.ServiceLevel(after, l)
		}
		checkSubmitted(t, after, text, after, impl.VerdictAgain)
	})
}

// No replay is accepted twice, whatever is called between.
func TestP166WithRevokedPlayers(t *testing.T) {
	draw := rand.New(rand.NewSource(82))
	eachAccepted(t, func(s service, text string, r replay, after service) {
		key := s.Keys[r.Player]
		for range 4 {
			player := draw.Intn(players)
			after, _ = impl.ServiceRevoke(after, player)
		}
		after, _ = impl.ServiceRevoke(after, r.Player)
		after, _ = impl.ServiceKey(after, r.Player, key)
		checkSubmitted(t, after, text, after, impl.VerdictAgain)
	})
}

func TestP167(t *testing.T) {
	eachAccepted(t, func(s service, text string, r replay, after service) {
		if !slices.Equal(after.Keys, s.Keys) || !slices.Equal(after.Tags, append(slices.Clone(s.Tags), r.Tag)) || len(after.Tracks) != len(s.Tracks) {
			t.Errorf("after %s, %s becomes %s", shownReplay(r), shownService(s), shownService(after))
			return
		}
		for place, tr := range s.Tracks {
			if got := after.Tracks[place]; !sameLevel(got.Level, tr.Level) || tr.Level.Id != r.Level && !slices.Equal(got.Board, tr.Board) {
				t.Errorf("after %s, the level %v with %v is %v with %v", shownReplay(r), shownLevel(tr.Level), tr.Board, shownLevel(got.Level), got.Board)
			}
		}
	})
}

func TestP168(t *testing.T) {
	eachOutcome(t, func(s service, text string, after service, verdict int) {
		r, ok := impl.ReplayDecode(text)
		want := impl.VerdictText
		if ok {
			want = impl.VerdictLevel
			if l, known := levelOf(s, r.Level); known {
				want = impl.VerifyReplay(l, s.Keys[r.Player], r)
			}
		}
		last := impl.VerdictAgain <= verdict && verdict <= impl.VerdictFull
		if verdict != want && !(want == impl.VerdictFine && last) {
			t.Errorf("the verdict of %s on %s is %d, that on the replay is %d", shownService(s), shownText(text), verdict, want)
		}
	})
}

func TestP169(t *testing.T) {
	eachOutcome(t, func(s service, text string, after service, verdict int) {
		want := impl.BoardDone
		switch verdict {
		case impl.VerdictWorse:
			want = impl.BoardWorse
		case impl.VerdictBelow:
			want = impl.BoardBelow
		case impl.VerdictFine, impl.VerdictFull:
		default:
			return
		}
		r, _ := impl.ReplayDecode(text)
		board, code := impl.BoardAdd(topOf(t, s, r.Level), entryOf(r.Player, r.Score))
		if code != want {
			t.Errorf("the verdict on %s is %d, but BoardAdd says %d", shownReplay(r), verdict, code)
		}
		if verdict == impl.VerdictFine {
			checkTop(t, after, r.Level, board, true)
		}
	})
}

func TestP170(t *testing.T) {
	many := 0
	eachMade(t, func(l level, key int, r replay) {
		if impl.RunScore(l, r.Inputs) != len(r.Inputs) {
			return
		}
		many++
		s := serviceWith(t, l, r.Player, key)
		want := withTags(withBoard(s, 0, boardOf(r.Player, len(r.Inputs))), r.Tag)
		checkSubmitted(t, s, impl.ReplayEncode(r), want, impl.VerdictFine)
		checkTop(t, want, l.Id, boardOf(r.Player, len(r.Inputs)), true)
	})
	if many < 100 {
		t.Errorf("only %d runs finish with their last input", many)
	}
}

func TestP171(t *testing.T) {
	for _, s := range services() {
		for player := range players {
			after, many := impl.ServiceRevoke(s, player)
			if !impl.ServiceValid(after) || after.Keys[player] != 0 {
				t.Errorf("without player %d, %s becomes %s", player, shownService(s), shownService(after))
			}
			for _, tr := range s.Tracks {
				if impl.BoardRank(tr.Board, player) > 0 {
					many--
				}
				if b := topOf(t, after, tr.Level.Id); impl.BoardRank(b, player) != 0 {
					t.Errorf("the revoked player %d is on the board %v", player, b)
				}
			}
			if many != 0 {
				t.Errorf("without player %d, %s has %d entries less than the number says", player, shownService(s), many)
			}
		}
	}
}

func TestP172(t *testing.T) {
	for _, s := range services() {
		for player := range players {
			after, _ := impl.ServiceRevoke(s, player)
			if !slices.Equal(after.Tags, s.Tags) || !slices.Equal(changedAt(after.Keys, player, s.Keys[player]), s.Keys) || len(after.Tracks) != len(s.Tracks) {
				t.Errorf("without player %d, %s becomes %s", player, shownService(s), shownService(after))
				continue
			}
			for place, tr := range s.Tracks {
				got := after.Tracks[place]
				if !sameLevel(got.Level, tr.Level) || !slices.Equal(got.Board, removedByDefinition(tr.Board, player)) {
					t.Errorf("without player %d, the level %v with %v is %v with %v", player, shownLevel(tr.Level), tr.Board, shownLevel(got.Level), got.Board)
				}
			}
		}
	}
}

func TestP173(t *testing.T) {
	for _, s := range services() {
		for player := range players {
			after, _ := impl.ServiceRevoke(s, player)
			checkRevoked(t, after, player, after, 0)
		}
	}
}

func TestP174(t *testing.T) {
	known := 0
	eachOutcome(t, func(s service, text string, after service, verdict int) {
		r, ok := impl.ReplayDecode(text)
		if !ok {
			return
		}
		want := impl.VerdictLevel
		if _, ok := levelOf(s, r.Level); ok {
			want = impl.VerdictKey
			known++
		}
		revoked, _ := impl.ServiceRevoke(after, r.Player)
		checkSubmitted(t, revoked, text, revoked, want)
	})
	if known < 5000 {
		t.Errorf("only %d levels are known", known)
	}
}

func TestP175(t *testing.T) {
	for _, s := range services() {
		for number := -1; number <= maxLevel+1; number++ {
			b, ok := impl.ServiceTop(s, number)
			if _, known := levelOf(s, number); ok != known || !ok && len(b) != 0 {
				t.Errorf("ServiceTop(%s, %d) = %v, %v", shownService(s), number, b, ok)
			}
		}
		for _, tr := range s.Tracks {
			if b := topOf(t, s, tr.Level.Id); !slices.Equal(b, tr.Board) || !impl.BoardValid(b) {
				t.Errorf("ServiceTop(%s, %d) = %v", shownService(s), tr.Level.Id, b)
			}
		}
	}
}

func TestP176(t *testing.T) {
	entries := 0
	check := func(s service) {
		if !impl.ServiceValid(s) {
			return
		}
		for _, tr := range s.Tracks {
			for _, e := range tr.Board {
				entries++
				if s.Keys[e.Player] == 0 {
					t.Errorf("player %d has an entry in %s, but no key", e.Player, shownService(s))
				}
			}
		}
	}
	for _, s := range services() {
		for player := range players {
			check(withKeys(s, changedAt(s.Keys, player, 0)...))
			after, _ := impl.ServiceRevoke(s, player)
			check(after)
		}
	}
	for _, s := range invalidServices() {
		check(s)
	}
	eachOutcome(t, func(s service, text string, after service, verdict int) { check(after) })
	if entries < 10000 {
		t.Errorf("there are only %d entries", entries)
	}
}

func TestP177(t *testing.T) {
	for _, s := range invalidServices() {
		if impl.ServiceValid(s) {
			t.Errorf("ServiceValid(%s) holds", shownService(s))
		}
		for _, text := range []string{"", sprintText(3, 2, 1), sprintText(50, 2, 1), sprintText(98, 5, 3)} {
			checkSubmitted(t, s, text, service{}, -1)
		}
		for player := range players {
			checkRevoked(t, s, player, service{}, -1)
		}
		for _, number := range []int{0, 1, 2, 3, 50, 97, 98, 99} {
			checkTop(t, s, number, nil, false)
		}
	}
}
