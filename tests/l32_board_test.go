package tests

import (
	"math/rand"
	"slices"
	"sync"
	"testing"

	"loop.example/replayverifier/impl"
)

type entry = impl.Entry

const maxBoard = impl.MaxBoard

// What BoardAdd says of an entry.
const (
	boardDone = iota
	boardWorse
	boardBelow
	boardInvalid
)

func entryOf(player, score int) entry { return entry{Player: player, Score: score} }

// boardOf returns the board of a player and a score, another player and a score,
// and so on.
func boardOf(numbers ...int) []entry {
	var b []entry
	for i := 0; i < len(numbers); i += 2 {
		b = append(b, entryOf(numbers[i], numbers[i+1]))
	}
	return b
}

// fullBoard returns a board with as many entries as it may have.
func fullBoard() []entry { return boardOf(4, 10, 2, 20, 7, 20, 0, 30) }

// boardPlayers and boardScores are some of those that are in range.
func boardPlayers() []int { return []int{0, 1, 4, 8, players - 1} }

func boardScores() []int { return []int{0, 1, 30, maxTicks} }

// extendBoard calls check with a board and with all boards that begin with it.
func extendBoard(b []entry, check func(b []entry)) {
	check(slices.Clone(b))
	if len(b) == maxBoard {
		return
	}
	for _, player := range boardPlayers() {
		if rankByDefinition(b, player) > 0 {
			continue
		}
		for _, score := range boardScores() {
			if len(b) == 0 || score >= b[len(b)-1].Score {
				extendBoard(append(slices.Clone(b), entryOf(player, score)), check)
			}
		}
	}
}

// eachBoard calls check with all boards of some players and scores, and with
// drawn ones.
func eachBoard(check func(b []entry)) {
	extendBoard(nil, check)
	draw := rand.New(rand.NewSource(61))
	for range 2000 {
		check(drawnBoard(draw))
	}
}

// drawnBoard returns a board of which some scores may be equal.
func drawnBoard(draw *rand.Rand) []entry {
	many := draw.Intn(maxBoard + 1)
	low := draw.Intn(maxTicks + 1)
	var scores []int
	for range many {
		scores = append(scores, low+draw.Intn(min(maxTicks-low, 3+draw.Intn(maxTicks))+1))
	}
	slices.Sort(scores)
	var b []entry
	for index, player := range draw.Perm(players)[:many] {
		b = append(b, entryOf(player, scores[index]))
	}
	return b
}

// entriesFor returns entries that may be added to a board: of some players and
// all of those on it, with scores around all of those on it.
func entriesFor(b []entry) []entry {
	who, scores := []int{0, 5, players - 1}, []int{0, 1, 29, maxTicks - 1, maxTicks}
	for _, e := range b {
		who = append(who, e.Player)
		scores = append(scores, max(e.Score-1, 0), e.Score, min(e.Score+1, maxTicks))
	}
	slices.Sort(who)
	slices.Sort(scores)
	var list []entry
	for _, player := range slices.Compact(who) {
		for _, score := range slices.Compact(slices.Clone(scores)) {
			list = append(list, entryOf(player, score))
		}
	}
	return list
}

// eachEntry calls check with boards and entries that may be added to them.
func eachEntry(check func(b []entry, e entry)) {
	eachBoard(func(b []entry) {
		for _, e := range entriesFor(b) {
			check(b, e)
		}
	})
}

// invalidEntries returns entries that are valid but for one number, and some of
// which both are wrong.
func invalidEntries() []entry {
	list := []entry{entryOf(-1, -1), entryOf(players, maxTicks+1), entryOf(-1, maxTicks+1), entryOf(players, -1)}
	for _, n := range outsideOf(0, players-1) {
		list = append(list, entryOf(n, 0), entryOf(n, 17), entryOf(n, maxTicks))
	}
	for _, n := range outsideOf(0, maxTicks) {
		list = append(list, entryOf(0, n), entryOf(4, n), entryOf(players-1, n))
	}
	return list
}

// spoiledBoards returns boards that are a board but for one thing.
func spoiledBoards(b []entry) [][]entry {
	var list [][]entry
	for index, e := range b {
		for _, bad := range invalidEntries() {
			other := slices.Clone(b)
			other[index] = bad
			list = append(list, other)
		}
		for _, bad := range []entry{entryOf(-1, e.Score), entryOf(players, e.Score), entryOf(e.Player, -1), entryOf(e.Player, maxTicks+1)} {
			other := slices.Clone(b)
			other[index] = bad
			list = append(list, other)
		}
		// One player twice, next to each other or not, and with other scores or not.
		for place := range b {
			other := slices.Clone(b)
			other[place].Player = e.Player
			if place != index {
				list = append(list, other)
			}
		}
		list = append(list, slices.Insert(slices.Clone(b), index, e), append(slices.Clone(b), entryOf(e.Player, maxTicks)), slices.Concat([]entry{entryOf(e.Player, 0)}, b))
		// Scores that decrease, at one place or at several ones.
		if index > 0 && b[0].Score != e.Score {
			other := slices.Clone(b)
			other[0], other[index] = other[index], other[0]
			list = append(list, other)
		}
		if index > 0 && b[index-1].Score > 0 {
			other := slices.Clone(b)
			other[index].Score = b[index-1].Score - 1
			list = append(list, other)
		}
	}
	// An entry too many, though of another player and with a score in order.
	for player := range players {
		if len(b) == maxBoard && rankByDefinition(b, player) == 0 {
			list = append(list, append(slices.Clone(b), entryOf(player, maxTicks)), slices.Concat([]entry{entryOf(player, 0)}, b))
		}
	}
	return list
}

// invalidBoards returns boards that are valid but for one thing, and others.
func invalidBoards() [][]entry {
	list := [][]entry{
		make([]entry, 2), make([]entry, maxBoard), make([]entry, 300000), slices.Repeat([]entry{entryOf(3, 3)}, 2),
		boardOf(1, 5, 2, 5, 3, 5, 4, 5, 5, 5), boardOf(1, 5, 2, 6, 3, 7, 4, 8, 5, 9), boardOf(1, 5, 2, 6, 3, 7, 4, 8, 5, 9, 6, 10, 7, 11, 8, 12),
		boardOf(1, 6, 2, 5), boardOf(1, 60, 2, 0), boardOf(1, 1, 2, 3, 3, 2), boardOf(1, 2, 2, 1, 3, 3), boardOf(1, 5, 2, 7, 3, 6, 4, 8), boardOf(4, 8, 3, 7, 2, 6, 1, 5),
		boardOf(1, 5, 1, 5), boardOf(1, 5, 1, 6), boardOf(1, 5, 2, 5, 1, 5), boardOf(1, 5, 2, 6, 1, 7), boardOf(1, 5, 2, 6, 3, 7, 1, 8), boardOf(3, 5, 1, 6, 1, 7), boardOf(7, 0, 8, 0, 9, 0, 9, 0),
		boardOf(-1, 5), boardOf(10, 5), boardOf(5, -1), boardOf(5, 61), boardOf(1, 2, 10, 3), boardOf(-1, 2, 1, 3), boardOf(1, -1, 2, 3), boardOf(1, 2, 3, 61),
	}
	for _, b := range [][]entry{boardOf(0, 0), boardOf(9, 60), boardOf(1, 17, 2, 17), boardOf(8, 5, 0, 6, 3, 60), fullBoard(), boardOf(1, 30, 2, 30, 3, 30, 4, 30)} {
		list = append(list, spoiledBoards(b)...)
	}
	return list
}

// boardByDefinition reports whether any entries are a board.
func boardByDefinition(b []entry) bool {
	scores, who := []int{}, map[int]bool{}
	for _, e := range b {
		if !isAmong(e.Player, 0, 9) || !isAmong(e.Score, 0, 60) {
			return false
		}
		scores = append(scores, e.Score)
		who[e.Player] = true
	}
	return len(b) <= 4 && slices.IsSorted(scores) && len(who) == len(b)
}

// rankByDefinition returns the place of a player on any board.
func rankByDefinition(b []entry, player int) int {
	return 1 + slices.IndexFunc(b, func(e entry) bool { return e.Player == player })
}

// removedByDefinition returns any board without a player.
func removedByDefinition(b []entry, player int) []entry {
	return slices.DeleteFunc(slices.Clone(b), func(e entry) bool { return e.Player == player })
}

// addedByDefinition returns any board with any entry, and what BoardAdd says.
func addedByDefinition(b []entry, e entry) ([]entry, int) {
	if !boardByDefinition(b) || !boardByDefinition([]entry{e}) {
		return nil, boardInvalid
	}
	if slices.ContainsFunc(b, func(x entry) bool { return x.Player == e.Player && x.Score <= e.Score }) {
		return b, boardWorse
	}
	others := removedByDefinition(b, e.Player)
	place := slices.IndexFunc(others, func(x entry) bool { return x.Score > e.Score })
	if place == -1 {
		place = len(others)
	}
	if place == 4 {
		return b, boardBelow
	}
	after := slices.Insert(others, place, e)
	return after[:min(len(after), 4)], boardDone
}

// shownBoard returns a board, or the beginning of a long one.
func shownBoard(b []entry) []entry { return b[:min(len(b), 9)] }

func checkBoard(t *testing.T, b []entry, want bool) {
	t.Helper()
	if got := impl.BoardValid(b); got != want {
		t.Errorf("BoardValid(%v) of %d entries = %v, want %v", shownBoard(b), len(b), got, want)
	}
}

func checkAdded(t *testing.T, b []entry, e entry, want []entry, wantCode int) {
	t.Helper()
	if got, code := impl.BoardAdd(b, e); !slices.Equal(got, want) || code != wantCode {
		t.Errorf("BoardAdd(%v, %v) = %v, %d, want %v, %d", shownBoard(b), e, got, code, want, wantCode)
	}
}

func checkRank(t *testing.T, b []entry, player, want int) {
	t.Helper()
	if got := impl.BoardRank(b, player); got != want {
		t.Errorf("BoardRank(%v, %d) = %d, want %d", shownBoard(b), player, got, want)
	}
}

func checkRemoved(t *testing.T, b []entry, player int, want []entry, wantOk bool) {
	t.Helper()
	if got, ok := impl.BoardRemove(b, player); !slices.Equal(got, want) || ok != wantOk {
		t.Errorf("BoardRemove(%v, %d) = %v, %v, want %v, %v", shownBoard(b), player, got, ok, want, wantOk)
	}
}

func checkLimit(t *testing.T, b []entry, want int) {
	t.Helper()
	if got := impl.BoardLimit(b); got != want {
		t.Errorf("BoardLimit(%v) = %d, want %d", shownBoard(b), got, want)
	}
}

// checkNoBoard checks what the functions return for what is no board.
func checkNoBoard(t *testing.T, b []entry) {
	t.Helper()
	checkBoard(t, b, false)
	checkLimit(t, b, -1)
	for _, player := range append(counted(players), outsideOf(0, players-1)...) {
		checkRank(t, b, player, -1)
		checkRemoved(t, b, player, nil, false)
		checkAdded(t, b, entryOf(player, 0), nil, boardInvalid)
		checkAdded(t, b, entryOf(player, maxTicks), nil, boardInvalid)
		checkAdded(t, b, entryOf(player, -1), nil, boardInvalid)
	}
}

func TestConstantsOfChapter32(t *testing.T) {
	if maxBoard != 4 {
		t.Errorf("MaxBoard is %d", maxBoard)
	}
	got := []int{impl.BoardDone, impl.BoardWorse, impl.BoardBelow, impl.BoardInvalid}
	if !slices.Equal(got, counted(4)) {
		t.Errorf("what BoardAdd says is %v", got)
	}
}

func TestBoardRows(t *testing.T) {
	rows := []struct {
		b    []entry
		want bool
	}{
		{nil, true}, {[]entry{}, true}, {make([]entry, 0, 9), true}, {make([]entry, 1), true}, {fullBoard(), true},
		{boardOf(0, 0), true}, {boardOf(9, 60), true}, {boardOf(9, 0), true}, {boardOf(0, 60), true}, {boardOf(3, 17), true},
		{boardOf(-1, 0), false}, {boardOf(10, 60), false}, {boardOf(9, 61), false}, {boardOf(0, -1), false}, {boardOf(-1, -1), false}, {boardOf(10, 61), false},
		{boardOf(1, 5, 2, 5), true}, {boardOf(2, 5, 1, 5), true}, {boardOf(1, 5, 2, 6), true}, {boardOf(1, 5, 2, 4), false}, {boardOf(1, 0, 2, 60), true}, {boardOf(1, 60, 2, 0), false},
		{boardOf(1, 5, 1, 5), false}, {boardOf(1, 5, 1, 6), false}, {boardOf(1, 5, 2, 5, 1, 5), false}, {boardOf(1, 5, 2, 6, 2, 7), false}, {boardOf(1, 5, 2, 6, 3, 7, 1, 8), false},
		{boardOf(1, 5, 2, 6, 3, 5), false}, {boardOf(1, 5, 2, 4, 3, 5), false}, {boardOf(1, 5, 2, 6, 3, 7, 4, 6), false}, {boardOf(1, 5, 2, 6, 3, 7, 4, 7), true},
		{boardOf(1, 7, 2, 7, 3, 7, 4, 7), true}, {boardOf(6, 0, 7, 0, 8, 0, 9, 0), true}, {boardOf(0, 60, 1, 60, 2, 60, 3, 60), true}, {boardOf(4, 7, 3, 7, 2, 7, 1, 7), true},
		{boardOf(1, 7, 2, 7, 3, 7, 4, 7, 5, 7), false}, {boardOf(1, 1, 2, 2, 3, 3, 4, 4, 5, 5), false}, {boardOf(1, 1, 2, 2, 3, 3, 4, 4, 4, 4), false}, {make([]entry, 5), false},
		{boardOf(1, 5, 2, 6, 3, 7, 10, 8), false}, {boardOf(1, 5, 2, 6, 3, 7, 4, 61), false}, {boardOf(-1, 5, 2, 6, 3, 7, 4, 8), false}, {boardOf(1, -1, 2, 6, 3, 7, 4, 8), false},
	}
	for _, r := range rows {
		checkBoard(t, r.b, r.want)
	}
}

func TestAddRows(t *testing.T) {
	three := boardOf(4, 10, 2, 20, 7, 20)
	equal := boardOf(1, 5, 2, 5, 3, 5, 4, 5)
	rows := []struct {
		b    []entry
		e    entry
		want []entry
		code int
	}{
		{nil, entryOf(0, 0), boardOf(0, 0), boardDone}, {[]entry{}, entryOf(9, 60), boardOf(9, 60), boardDone}, {make([]entry, 0, 9), entryOf(3, 17), boardOf(3, 17), boardDone},
		// One entry: of another player, and of the same one.
		{boardOf(1, 9), entryOf(2, 7), boardOf(2, 7, 1, 9), boardDone}, {boardOf(1, 9), entryOf(2, 9), boardOf(1, 9, 2, 9), boardDone}, {boardOf(2, 9), entryOf(1, 9), boardOf(2, 9, 1, 9), boardDone},
		{boardOf(1, 9), entryOf(2, 10), boardOf(1, 9, 2, 10), boardDone}, {boardOf(1, 9), entryOf(1, 8), boardOf(1, 8), boardDone}, {boardOf(1, 9), entryOf(1, 0), boardOf(1, 0), boardDone},
		{boardOf(1, 9), entryOf(1, 9), boardOf(1, 9), boardWorse}, {boardOf(1, 9), entryOf(1, 10), boardOf(1, 9), boardWorse}, {boardOf(1, 0), entryOf(1, 0), boardOf(1, 0), boardWorse}, {boardOf(0, 60), entryOf(0, 60), boardOf(0, 60), boardWorse},
		// Room for one more.
		{three, entryOf(0, 0), boardOf(0, 0, 4, 10, 2, 20, 7, 20), boardDone}, {three, entryOf(0, 10), boardOf(4, 10, 0, 10, 2, 20, 7, 20), boardDone}, {three, entryOf(0, 19), boardOf(4, 10, 0, 19, 2, 20, 7, 20), boardDone},
		{three, entryOf(0, 20), boardOf(4, 10, 2, 20, 7, 20, 0, 20), boardDone}, {three, entryOf(0, 60), boardOf(4, 10, 2, 20, 7, 20, 0, 60), boardDone},
		{three, entryOf(7, 19), boardOf(4, 10, 7, 19, 2, 20), boardDone}, {three, entryOf(7, 9), boardOf(7, 9, 4, 10, 2, 20), boardDone}, {three, entryOf(2, 10), boardOf(4, 10, 2, 10, 7, 20), boardDone}, {three, entryOf(4, 3), boardOf(4, 3, 2, 20, 7, 20), boardDone},
		{three, entryOf(7, 20), three, boardWorse}, {three, entryOf(2, 20), three, boardWorse}, {three, entryOf(2, 21), three, boardWorse}, {three, entryOf(4, 10), three, boardWorse}, {three, entryOf(4, 60), three, boardWorse},
		// A full board, of which the last entry drops out.
		{fullBoard(), entryOf(5, 0), boardOf(5, 0, 4, 10, 2, 20, 7, 20), boardDone}, {fullBoard(), entryOf(5, 9), boardOf(5, 9, 4, 10, 2, 20, 7, 20), boardDone}, {fullBoard(), entryOf(5, 10), boardOf(4, 10, 5, 10, 2, 20, 7, 20), boardDone},
		{fullBoard(), entryOf(5, 19), boardOf(4, 10, 5, 19, 2, 20, 7, 20), boardDone}, {fullBoard(), entryOf(5, 20), boardOf(4, 10, 2, 20, 7, 20, 5, 20), boardDone}, {fullBoard(), entryOf(5, 29), boardOf(4, 10, 2, 20, 7, 20, 5, 29), boardDone},
		{fullBoard(), entryOf(5, 30), fullBoard(), boardBelow}, {fullBoard(), entryOf(5, 31), fullBoard(), boardBelow}, {fullBoard(), entryOf(9, 60), fullBoard(), boardBelow},
		// A full board of which a player gets better, so that nobody drops out.
		{fullBoard(), entryOf(0, 29), boardOf(4, 10, 2, 20, 7, 20, 0, 29), boardDone}, {fullBoard(), entryOf(0, 20), boardOf(4, 10, 2, 20, 7, 20, 0, 20), boardDone}, {fullBoard(), entryOf(0, 10), boardOf(4, 10, 0, 10, 2, 20, 7, 20), boardDone},
		{fullBoard(), entryOf(7, 19), boardOf(4, 10, 7, 19, 2, 20, 0, 30), boardDone}, {fullBoard(), entryOf(2, 10), boardOf(4, 10, 2, 10, 7, 20, 0, 30), boardDone}, {fullBoard(), entryOf(2, 0), boardOf(2, 0, 4, 10, 7, 20, 0, 30), boardDone},
		{fullBoard(), entryOf(4, 9), boardOf(4, 9, 2, 20, 7, 20, 0, 30), boardDone},
		{fullBoard(), entryOf(0, 30), fullBoard(), boardWorse}, {fullBoard(), entryOf(0, 31), fullBoard(), boardWorse}, {fullBoard(), entryOf(7, 20), fullBoard(), boardWorse}, {fullBoard(), entryOf(2, 25), fullBoard(), boardWorse}, {fullBoard(), entryOf(4, 60), fullBoard(), boardWorse},
		// Scores that are all equal.
		{equal, entryOf(0, 4), boardOf(0, 4, 1, 5, 2, 5, 3, 5), boardDone}, {equal, entryOf(0, 5), equal, boardBelow}, {equal, entryOf(0, 6), equal, boardBelow},
		{equal, entryOf(1, 4), boardOf(1, 4, 2, 5, 3, 5, 4, 5), boardDone}, {equal, entryOf(3, 4), boardOf(3, 4, 1, 5, 2, 5, 4, 5), boardDone}, {equal, entryOf(4, 0), boardOf(4, 0, 1, 5, 2, 5, 3, 5), boardDone},
		{equal, entryOf(1, 5), equal, boardWorse}, {equal, entryOf(2, 5), equal, boardWorse}, {equal, entryOf(3, 5), equal, boardWorse}, {equal, entryOf(4, 6), equal, boardWorse},
		{equal[:3], entryOf(0, 5), boardOf(1, 5, 2, 5, 3, 5, 0, 5), boardDone}, {equal[:3], entryOf(3, 5), equal[:3], boardWorse}, {equal[:3], entryOf(9, 60), boardOf(1, 5, 2, 5, 3, 5, 9, 60), boardDone},
		{boardOf(6, 0, 7, 0, 8, 0, 9, 0), entryOf(0, 0), boardOf(6, 0, 7, 0, 8, 0, 9, 0), boardBelow}, {boardOf(6, 0, 7, 0, 8, 0, 9, 0), entryOf(9, 0), boardOf(6, 0, 7, 0, 8, 0, 9, 0), boardWorse},
		{boardOf(6, 60, 7, 60, 8, 60, 9, 60), entryOf(0, 60), boardOf(6, 60, 7, 60, 8, 60, 9, 60), boardBelow}, {boardOf(6, 60, 7, 60, 8, 60, 9, 60), entryOf(0, 59), boardOf(0, 59, 6, 60, 7, 60, 8, 60), boardDone},
		// All others of a full board but one have at most the score.
		{boardOf(1, 5, 2, 5, 3, 5, 4, 9), entryOf(0, 5), boardOf(1, 5, 2, 5, 3, 5, 0, 5), boardDone}, {boardOf(1, 5, 2, 5, 3, 5, 4, 9), entryOf(0, 8), boardOf(1, 5, 2, 5, 3, 5, 0, 8), boardDone}, {boardOf(1, 5, 2, 5, 3, 5, 4, 9), entryOf(0, 9), boardOf(1, 5, 2, 5, 3, 5, 4, 9), boardBelow},
		{boardOf(1, 5, 2, 5, 3, 5, 4, 9), entryOf(4, 8), boardOf(1, 5, 2, 5, 3, 5, 4, 8), boardDone}, {boardOf(1, 5, 2, 5, 3, 5, 4, 9), entryOf(4, 5), boardOf(1, 5, 2, 5, 3, 5, 4, 5), boardDone}, {boardOf(1, 5, 2, 5, 3, 5, 4, 9), entryOf(4, 9), boardOf(1, 5, 2, 5, 3, 5, 4, 9), boardWorse},
	}
	for _, r := range rows {
		checkAdded(t, r.b, r.e, r.want, r.code)
	}
}

func TestRankRows(t *testing.T) {
	rows := []struct {
		b            []entry
		player, rank int
	}{
		{fullBoard(), 4, 1}, {fullBoard(), 2, 2}, {fullBoard(), 7, 3}, {fullBoard(), 0, 4}, {fullBoard(), 1, 0}, {fullBoard(), 9, 0}, {fullBoard(), -1, 0}, {fullBoard(), 10, 0}, {fullBoard(), 20, 0},
		{boardOf(9, 0), 9, 1}, {boardOf(9, 0), 0, 0}, {boardOf(0, 0), 0, 1}, {boardOf(0, 9), 9, 0}, {nil, 0, 0}, {[]entry{}, 9, 0}, {nil, -1, 0}, {nil, 10, 0},
		{boardOf(1, 5, 2, 5, 3, 5, 4, 5), 1, 1}, {boardOf(1, 5, 2, 5, 3, 5, 4, 5), 3, 3}, {boardOf(1, 5, 2, 5, 3, 5, 4, 5), 4, 4}, {boardOf(1, 5, 2, 5, 3, 5, 4, 5), 5, 0},
		{boardOf(1, 6, 2, 5), 1, -1}, {boardOf(1, 6, 2, 5), 3, -1}, {boardOf(1, 5, 1, 5), 1, -1}, {boardOf(10, 5), 10, -1}, {boardOf(-1, 5), -1, -1}, {boardOf(1, 1, 2, 2, 3, 3, 4, 4, 5, 5), 1, -1}, {boardOf(1, 61), 1, -1}, {boardOf(1, -1), 1, -1},
	}
	for _, r := range rows {
		checkRank(t, r.b, r.player, r.rank)
	}
}

func TestRemoveRows(t *testing.T) {
	rows := []struct {
		b      []entry
		player int
		want   []entry
		wantOk bool
	}{
		{fullBoard(), 4, boardOf(2, 20, 7, 20, 0, 30), true}, {fullBoard(), 2, boardOf(4, 10, 7, 20, 0, 30), true}, {fullBoard(), 7, boardOf(4, 10, 2, 20, 0, 30), true}, {fullBoard(), 0, boardOf(4, 10, 2, 20, 7, 20), true},
		{fullBoard(), 1, fullBoard(), false}, {fullBoard(), 9, fullBoard(), false}, {fullBoard(), -1, fullBoard(), false}, {fullBoard(), 10, fullBoard(), false},
		{boardOf(9, 0), 9, nil, true}, {boardOf(9, 0), 0, boardOf(9, 0), false}, {boardOf(0, 0), 0, nil, true}, {nil, 0, nil, false}, {[]entry{}, 9, nil, false}, {nil, -1, nil, false}, {nil, 10, nil, false},
		{boardOf(1, 5, 2, 5, 3, 5, 4, 5), 1, boardOf(2, 5, 3, 5, 4, 5), true}, {boardOf(1, 5, 2, 5, 3, 5, 4, 5), 4, boardOf(1, 5, 2, 5, 3, 5), true}, {boardOf(1, 5, 2, 5, 3, 5, 4, 5), 5, boardOf(1, 5, 2, 5, 3, 5, 4, 5), false},
		{boardOf(1, 6, 2, 5), 1, nil, false}, {boardOf(1, 6, 2, 5), 3, nil, false}, {boardOf(1, 5, 1, 5), 1, nil, false}, {boardOf(10, 5), 10, nil, false}, {boardOf(1, 1, 2, 2, 3, 3, 4, 4, 5, 5), 5, nil, false},
	}
	for _, r := range rows {
		checkRemoved(t, r.b, r.player, r.want, r.wantOk)
	}
}

func TestLimitRows(t *testing.T) {
	rows := []struct {
		b    []entry
		want int
	}{
		{nil, 60}, {[]entry{}, 60}, {boardOf(0, 0), 60}, {boardOf(0, 0, 1, 0, 2, 0), 60}, {boardOf(4, 10, 2, 20, 7, 20), 60}, {boardOf(9, 60), 60},
		{fullBoard(), 29}, {boardOf(1, 5, 2, 5, 3, 5, 4, 5), 4}, {boardOf(1, 5, 2, 5, 3, 5, 4, 9), 8}, {boardOf(6, 60, 7, 60, 8, 60, 9, 60), 59}, {boardOf(6, 0, 7, 0, 8, 0, 9, 60), 59},
		{boardOf(6, 0, 7, 0, 8, 0, 9, 1), 0}, {boardOf(6, 0, 7, 0, 8, 0, 9, 0), -1},
		{boardOf(1, 6, 2, 5), -1}, {boardOf(1, 5, 1, 5), -1}, {boardOf(10, 5), -1}, {boardOf(5, 61), -1}, {boardOf(1, 1, 2, 2, 3, 3, 4, 4, 5, 5), -1}, {boardOf(1, 7, 2, 7, 3, 7, 4, 7, 5, 7), -1},
	}
	for _, r := range rows {
		checkLimit(t, r.b, r.want)
	}
}

func TestInvalidBoards(t *testing.T) {
	for _, b := range invalidBoards() {
		checkNoBoard(t, b)
	}
}

func TestInvalidEntries(t *testing.T) {
	boards := [][]entry{nil, {}, boardOf(0, 0), boardOf(9, 60), boardOf(1, 17, 2, 17), fullBoard(), boardOf(6, 0, 7, 0, 8, 0, 9, 0), boardOf(0, 60, 1, 60, 2, 60, 3, 60)}
	for _, b := range boards {
		for _, e := range invalidEntries() {
			checkBoard(t, []entry{e}, false)
			checkAdded(t, b, e, nil, boardInvalid)
		}
		for _, player := range outsideOf(0, players-1) {
			checkRank(t, b, player, 0)
			checkRemoved(t, b, player, b, false)
		}
	}
}

// All entries that are alone on a board, and those with numbers next to them.
func TestAllEntriesAlone(t *testing.T) {
	for player := -2; player < players+2; player++ {
		for score := -2; score <= maxTicks+2; score++ {
			b := boardOf(player, score)
			if !isAmong(player, 0, 9) || !isAmong(score, 0, 60) {
				checkNoBoard(t, b)
				checkAdded(t, nil, b[0], nil, boardInvalid)
				continue
			}
			checkBoard(t, b, true)
			checkAdded(t, nil, b[0], b, boardDone)
			checkAdded(t, b, b[0], b, boardWorse)
			checkRank(t, b, player, 1)
			checkRemoved(t, b, player, nil, true)
			checkLimit(t, b, 60)
		}
	}
}

// drawnEntries returns any entries, which often are a board.
func drawnEntries(draw *rand.Rand) []entry {
	b := drawnBoard(draw)
	switch draw.Intn(5) {
	case 0:
		b = append(b, entryOf(draw.Intn(players), maxTicks))
	case 1:
		draw.Shuffle(len(b), func(i, j int) { b[i], b[j] = b[j], b[i] })
	case 2:
		for range draw.Intn(3) + len(b)%2 {
			b = append(b, invalidEntries()[draw.Intn(len(invalidEntries()))])
		}
		slices.SortFunc(b, func(a, b entry) int { return a.Score - b.Score })
	}
	return b
}

func TestBoardsByDefinition(t *testing.T) {
	draw := rand.New(rand.NewSource(62))
	valid := map[bool]int{}
	for range 20000 {
		b := drawnEntries(draw)
		want := boardByDefinition(b)
		valid[want]++
		if !want {
			checkNoBoard(t, b)
			continue
		}
		checkBoard(t, b, true)
		for player := range players {
			rank := rankByDefinition(b, player)
			checkRank(t, b, player, rank)
			checkRemoved(t, b, player, removedByDefinition(b, player), rank > 0)
		}
	}
	if valid[true] < 5000 || valid[false] < 2000 {
		t.Errorf("entries are a board or not so often: %v", valid)
	}
}

func TestAddedByDefinition(t *testing.T) {
	codes := make([]int, 3)
	eachEntry(func(b []entry, e entry) {
		want, code := addedByDefinition(b, e)
		checkAdded(t, b, e, want, code)
		codes[code]++
	})
	if slices.Min(codes) < 1000 {
		t.Errorf("what BoardAdd says comes up so often: %v", codes)
	}
}

func TestLimitsByDefinition(t *testing.T) {
	eachBoard(func(b []entry) {
		want := 60
		if len(b) == 4 {
			want = slices.MaxFunc(b, func(a, b entry) int { return a.Score - b.Score }).Score - 1
		}
		checkLimit(t, b, want)
	})
}

// A board goes through many changes, and what it has become is changed again.
func TestManyChangesOfABoard(t *testing.T) {
	draw := rand.New(rand.NewSource(63))
	for round := range 300 {
		var b []entry
		most := 1 + round%maxTicks
		for range 100 {
			e := entryOf(draw.Intn(players), draw.Intn(most+1))
			want, code := addedByDefinition(b, e)
			checkAdded(t, b, e, want, code)
			b, _ = impl.BoardAdd(b, e)
			if draw.Intn(3) == 0 {
				player := draw.Intn(players)
				checkRemoved(t, b, player, removedByDefinition(b, player), rankByDefinition(b, player) > 0)
				b, _ = impl.BoardRemove(b, player)
			}
			checkBoard(t, b, true)
		}
	}
}

// Players who are as good as each other stay in the order in which they came.
func TestEqualScoresStayInOrder(t *testing.T) {
	draw := rand.New(rand.NewSource(64))
	for _, score := range []int{0, 1, 17, maxTicks} {
		for range 50 {
			order := draw.Perm(players)
			var b, want []entry
			for _, player := range order {
				b, _ = impl.BoardAdd(b, entryOf(player, score))
				if len(want) < maxBoard {
					want = append(want, entryOf(player, score))
				}
				if !slices.Equal(b, want) {
					t.Errorf("players %v, all with the score %d, have the board %v", order, score, b)
				}
			}
		}
	}
}

// What is behind the end of a board is part of nothing.
func TestWhatIsBehindTheBoardIsIgnored(t *testing.T) {
	whole := boardOf(4, 10, 2, 20, 7, 20, 0, 30, 0, -1, 4, 5, 10, 61)
	for many := range maxBoard + 1 {
		b := whole[:many]
		checkBoard(t, b, true)
		checkRank(t, b, 0, rankByDefinition(b, 0))
		checkRemoved(t, b, 0, removedByDefinition(b, 0), many == maxBoard)
		want, code := addedByDefinition(b, entryOf(0, 25))
		checkAdded(t, b, entryOf(0, 25), want, code)
		if many < maxBoard {
			checkLimit(t, b, 60)
		}
	}
	checkNoBoard(t, whole[:5])
}

// eachArgument calls check with boards that are valid or not, and with entries
// that are valid or not.
func eachArgument(check func(b []entry, e entry)) {
	draw := rand.New(rand.NewSource(65))
	for index, bad := range invalidEntries() {
		check(fullBoard()[:index%5], bad)
	}
	for _, b := range invalidBoards() {
		check(b, entryOf(draw.Intn(players), draw.Intn(maxTicks+1)))
	}
	for range 3000 {
		b := drawnBoard(draw)
		list := entriesFor(b)
		check(b, list[draw.Intn(len(list))])
	}
}

func TestBoardsLeaveTheirArguments(t *testing.T) {
	eachArgument(func(b []entry, e entry) {
		// What is behind the board in memory is not touched either.
		whole := slices.Concat(b, boardOf(5, 5, 6, 6, 7, 7, 8, 8, 9, 9))
		before := slices.Clone(whole)
		room := whole[:len(b)]
		impl.BoardValid(room)
		impl.BoardAdd(room, e)
		impl.BoardRank(room, e.Player)
		impl.BoardRemove(room, e.Player)
		impl.BoardLimit(room)
		if !slices.Equal(whole, before) {
			t.Errorf("the board %v or what is behind it was changed for %v", shownBoard(b), e)
		}
	})
}

// Neither of two results is changed by the other one, nor by the board, nor is
// this changed by a result, not even behind their ends.
func TestBoardsHaveNewMemory(t *testing.T) {
	mark := entryOf(-7, -7)
	functions := []func(b []entry, e entry) []entry{
		func(b []entry, e entry) []entry { after, _ := impl.BoardAdd(b, e); return after },
		func(b []entry, e entry) []entry { after, _ := impl.BoardRemove(b, e.Player); return after },
	}
	eachArgument(func(b []entry, e entry) {
		for _, f := range functions {
			whole := slices.Concat(b, boardOf(5, 5, 6, 6, 7, 7, 8, 8, 9, 9))
			before := slices.Clone(whole)
			first := f(whole[:len(b)], e)
			want := slices.Clone(first)
			for range 2 {
				overwrite(f(whole[:len(b)], e), mark)
			}
			if !slices.Equal(whole, before) {
				t.Errorf("what is written to a result changes the board %v", shownBoard(b))
			}
			overwrite(whole, mark)
			if !slices.Equal(first, want) {
				t.Errorf("what is written elsewhere is found in %v, which was %v", first, want)
			}
		}
	})
}

// A result that is changed, as a board or behind its end, does not change what a
// later call returns.
func TestBoardsKeepNoState(t *testing.T) {
	for range 3 {
		for _, e := range []entry{entryOf(5, 20), entryOf(5, 30), entryOf(0, 30), entryOf(0, 10), entryOf(10, 0)} {
			want, code := addedByDefinition(fullBoard(), e)
			checkAdded(t, fullBoard(), e, want, code)
			checkAdded(t, boardOf(1, 2, 1, 3), e, nil, boardInvalid)
			after, _ := impl.BoardAdd(fullBoard(), e)
			overwrite(after, entryOf(-7, -7))
			checkAdded(t, fullBoard(), e, want, code)
			checkRemoved(t, fullBoard(), 7, boardOf(4, 10, 2, 20, 0, 30), true)
			checkRemoved(t, nil, 7, nil, false)
			checkRank(t, fullBoard(), 7, 3)
			checkRank(t, nil, 7, 0)
			checkLimit(t, fullBoard(), 29)
			checkLimit(t, nil, 60)
			checkBoard(t, fullBoard(), true)
		}
	}
}

func TestBoardsAtTheSameTime(t *testing.T) {
	b := slices.Concat(fullBoard(), boardOf(5, 5))[:maxBoard]
	var group sync.WaitGroup
	for worker := range 8 {
		group.Add(1)
		go func() {
			defer group.Done()
			draw := rand.New(rand.NewSource(int64(worker)))
			for range 500 {
				e := entryOf(draw.Intn(players), draw.Intn(maxTicks+1))
				want, code := addedByDefinition(fullBoard(), e)
				checkAdded(t, b, e, want, code)
				checkRank(t, b, e.Player, rankByDefinition(fullBoard(), e.Player))
				checkRemoved(t, b, e.Player, removedByDefinition(fullBoard(), e.Player), rankByDefinition(fullBoard(), e.Player) > 0)
			}
		}()
	}
	group.Wait()
}
