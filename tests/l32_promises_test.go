package tests

import (
	"math/rand"
	"slices"
	"testing"

	"loop.example/replayverifier/impl"
)

// scoreOf returns the score of a player on a board, and whether there is one.
func scoreOf(b []entry, player int) (int, bool) {
	for _, e := range b {
		if e.Player == player {
			return e.Score, true
		}
	}
	return 0, false
}

// eachDone calls check with boards and entries that BoardAdd adds to them, and
// with the boards after that.
func eachDone(t *testing.T, check func(b []entry, e entry, after []entry)) {
	t.Helper()
	many := 0
	eachEntry(func(b []entry, e entry) {
		if after, code := impl.BoardAdd(b, e); code == impl.BoardDone {
			many++
			check(b, e, after)
		}
	})
	if many < 10000 {
		t.Errorf("only %d entries are added", many)
	}
}

// eachRemoved calls check with boards and players on them, and with the boards
// after BoardRemove.
func eachRemoved(t *testing.T, check func(b []entry, e entry, after []entry)) {
	t.Helper()
	eachBoard(func(b []entry) {
		for _, e := range b {
			after, ok := impl.BoardRemove(b, e.Player)
			if !ok {
				t.Errorf("BoardRemove(%v, %d) fails", b, e.Player)
			}
			check(b, e, after)
		}
	})
}

func TestP148(t *testing.T) {
	kept, dropped := 0, 0
	eachDone(t, func(b []entry, e entry, after []entry) {
		if !impl.BoardValid(after) || !slices.Contains(after, e) {
			t.Errorf("BoardAdd(%v, %v) = %v", b, e, after)
		}
		others, left := removedByDefinition(b, e.Player), removedByDefinition(after, e.Player)
		switch {
		case slices.Equal(left, others):
			kept++
		case len(others) == maxBoard && slices.Equal(left, others[:maxBoard-1]):
			dropped++
		default:
			t.Errorf("BoardAdd(%v, %v) = %v, with other entries than before", b, e, after)
		}
	})
	if kept < 1000 || dropped < 1000 {
		t.Errorf("all other entries stay on %d boards, the last one drops out of %d", kept, dropped)
	}
}

func TestP149(t *testing.T) {
	eachDone(t, func(b []entry, e entry, after []entry) {
		before := slices.Clone(after)
		for _, score := range []int{e.Score, e.Score + 1, (e.Score + maxTicks) / 2, maxTicks} {
			if score >= e.Score && score <= maxTicks {
				checkAdded(t, after, entryOf(e.Player, score), before, impl.BoardWorse)
			}
		}
		if !slices.Equal(after, before) {
			t.Errorf("the board %v has become %v", before, after)
		}
	})
}

func TestP150(t *testing.T) {
	codes := make([]int, 3)
	eachEntry(func(b []entry, e entry) {
		others, want := 0, impl.BoardDone
		for _, x := range b {
			if x.Player != e.Player && x.Score <= e.Score {
				others++
			}
		}
		if score, ok := scoreOf(b, e.Player); ok && score <= e.Score {
			want = impl.BoardWorse
		} else if others >= impl.MaxBoard {
			want = impl.BoardBelow
		}
		codes[want]++
		after, code := impl.BoardAdd(b, e)
		if code != want || slices.Equal(after, b) != (want != impl.BoardDone) {
			t.Errorf("BoardAdd(%v, %v) = %v, %d, want %d", b, e, after, code, want)
		}
	})
	if slices.Min(codes) < 1000 {
		t.Errorf("what BoardAdd says comes up so often: %v", codes)
	}
}

// What is invalid is neither worse nor below, and is not added.
func TestP150OfInvalidArguments(t *testing.T) {
	for _, b := range [][]entry{nil, boardOf(3, 9), fullBoard(), boardOf(6, 0, 7, 0, 8, 0, 9, 0)} {
		for _, e := range invalidEntries() {
			checkAdded(t, b, e, nil, impl.BoardInvalid)
		}
		for _, bad := range spoiledBoards(b) {
			for _, e := range []entry{entryOf(0, 0), entryOf(3, 9), entryOf(9, maxTicks), entryOf(-1, 0), entryOf(0, maxTicks+1)} {
				checkAdded(t, bad, e, nil, impl.BoardInvalid)
			}
		}
	}
}

func TestP151(t *testing.T) {
	better, out := 0, 0
	eachDone(t, func(b []entry, e entry, after []entry) {
		for _, x := range b {
			score, ok := scoreOf(after, x.Player)
			switch {
			case !ok:
				out++
				if x.Score < after[len(after)-1].Score {
					t.Errorf("BoardAdd(%v, %v) = %v, but %v is better than the last one", b, e, after, x)
				}
			case score > x.Score:
				t.Errorf("BoardAdd(%v, %v) = %v, with a greater score than %v", b, e, after, x)
			case score < x.Score:
				better++
			}
		}
	})
	if better < 1000 || out < 1000 {
		t.Errorf("%d players get better, %d drop out", better, out)
	}
}

func TestP152(t *testing.T) {
	eachBoard(func(b []entry) {
		for player := range impl.Players {
			want := 0
			for index, e := range b {
				if e.Player == player {
					want = index + 1
				}
			}
			checkRank(t, b, player, want)
		}
		for _, player := range outsideOf(0, impl.Players-1) {
			checkRank(t, b, player, 0)
		}
	})
	for _, b := range invalidBoards() {
		for player := range impl.Players {
			checkRank(t, b, player, -1)
		}
	}
}

func TestP153(t *testing.T) {
	equal, smaller := 0, 0
	eachBoard(func(b []entry) {
		for _, e := range b {
			rank := impl.BoardRank(b, e.Player)
			if rank < 1 || rank > len(b) {
				t.Errorf("BoardRank(%v, %d) = %d", b, e.Player, rank)
				continue
			}
			for _, x := range b[:rank-1] {
				switch {
				case x.Score > e.Score:
					t.Errorf("BoardRank(%v, %d) = %d, but %v is ahead", b, e.Player, rank, x)
				case x.Score == e.Score:
					equal++
				default:
					smaller++
				}
			}
		}
	})
	if equal < 1000 || smaller < 1000 {
		t.Errorf("%d entries ahead have the same score, %d a smaller one", equal, smaller)
	}
}

func TestP154(t *testing.T) {
	draw := rand.New(rand.NewSource(66))
	eachBoard(func(b []entry) {
		for player := range impl.Players {
			others := []entry{}
			for _, e := range b {
				if e.Player != player {
					others = append(others, e)
				}
			}
			checkRemoved(t, b, player, others, len(others) < len(b))
		}
		outside := outsideOf(0, impl.Players-1)
		checkRemoved(t, b, outside[draw.Intn(len(outside))], b, false)
	})
	for _, b := range invalidBoards() {
		checkRemoved(t, b, draw.Intn(impl.Players), nil, false)
	}
}

func TestP155(t *testing.T) {
	eachRemoved(t, func(b []entry, e entry, after []entry) {
		again, code := impl.BoardAdd(after, e)
		if code != impl.BoardDone || len(again) != len(b) || !slices.Contains(again, e) {
			t.Errorf("BoardAdd(%v, %v) = %v, %d", after, e, again, code)
		}
	})
}

func TestP156(t *testing.T) {
	full, none := 0, 0
	eachBoard(func(b []entry) {
		limit := impl.BoardLimit(b)
		if limit < -1 || limit > impl.MaxTicks || len(b) < impl.MaxBoard && limit != impl.MaxTicks {
			t.Errorf("BoardLimit(%v) = %d", b, limit)
		}
		if limit < 0 {
			none++
		} else if limit < impl.MaxTicks {
			full++
		}
		for player := range impl.Players {
			if _, ok := scoreOf(b, player); ok {
				continue
			}
			if limit >= 0 {
				after, code := impl.BoardAdd(b, entryOf(player, limit))
				if code != impl.BoardDone || !slices.Contains(after, entryOf(player, limit)) {
					t.Errorf("BoardLimit(%v) = %d, but with it BoardAdd of player %d gives %v, %d", b, limit, player, after, code)
				}
			}
			// With the limit -1, which stands for none, this holds as well.
			for score := limit + 1; score <= impl.MaxTicks; score += 1 + (impl.MaxTicks-score)/3 {
				checkAdded(t, b, entryOf(player, score), b, impl.BoardBelow)
			}
		}
	})
	if full < 1000 || none < 100 {
		t.Errorf("%d full boards have a limit, %d have none", full, none)
	}
}

func TestP157(t *testing.T) {
	ahead, behind, equal := 0, 0, 0
	eachDone(t, func(b []entry, e entry, after []entry) {
		place := slices.Index(after, e)
		for index, x := range after {
			switch {
			case index < place && x.Score > e.Score, index > place && x.Score <= e.Score:
				t.Errorf("BoardAdd(%v, %v) = %v", b, e, after)
			case index > place:
				behind++
			case index < place && x.Score == e.Score:
				equal++
			case index < place:
				ahead++
			}
		}
	})
	if ahead < 1000 || behind < 1000 || equal < 1000 {
		t.Errorf("%d entries are ahead with smaller scores, %d with the same one, %d behind", ahead, equal, behind)
	}
}

func TestP158(t *testing.T) {
	eachBoard(func(b []entry) {
		checkBoard(t, b, true)
		for index, e := range b {
			checkBoard(t, slices.Delete(slices.Clone(b), index, index+1), true)
			for place := range len(b) + 1 {
				checkBoard(t, slices.Insert(slices.Clone(b), place, e), false)
			}
		}
	})
}

// Also if there is room for it, an entry is on a board once.
func TestP158WithRoom(t *testing.T) {
	for player := range impl.Players {
		for score := range impl.MaxTicks + 1 {
			for many := 2; many <= impl.MaxBoard+1; many++ {
				checkBoard(t, slices.Repeat([]entry{entryOf(player, score)}, many), false)
			}
		}
	}
}
