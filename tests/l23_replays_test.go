package tests

import (
	"fmt"
	"math"
	"math/rand"
	"regexp"
	"slices"
	"strconv"
	"strings"
	"testing"

	"loop.example/replayverifier/impl"
)

type (
	replay = impl.Replay
	part   = impl.Part
)

const (
	players = impl.Players
	every   = impl.Every
)

func partOf(code, many int) part { return part{Code: code, Many: many} }

// partsOf returns parts, of each of which the code and the number are given.
func partsOf(numbers ...int) []part {
	var list []part
	for i := 0; i < len(numbers); i += 2 {
		list = append(list, partOf(numbers[i], numbers[i+1]))
	}
	return list
}

// onesOf returns so many parts with a number of 1 whose codes alternate.
func onesOf(many int) []part {
	list := make([]part, many)
	for i := range list {
		list[i] = partOf(4+i%2, 1)
	}
	return list
}

// alternating returns so many inputs, none of which is like the next one.
func alternating(many int) []input {
	list := drives(many)
	for i := range list {
		list[i].Steer = i % 2
	}
	return list
}

// withHashes returns a replay with other hashes.
func withHashes(r replay, list ...int) replay {
	r.Hashes = list
	return r
}

// withTag returns a replay with another tag.
func withTag(r replay, tag int) replay {
	r.Tag = tag
	return r
}

// withReplayInputs returns a replay with other inputs, and with as many hashes
// as there have to be for them.
func withReplayInputs(r replay, list []input) replay {
	r.Inputs = list
	return withHashes(r, counted(len(list)/5)...)
}

// drawnInputs returns so many inputs, of which neighbours are often the same.
func drawnInputs(draw *rand.Rand, many int) []input {
	list := make([]input, many)
	change := 1 + draw.Intn(9)
	for i := range list {
		if i > 0 && draw.Intn(change) > 0 {
			list[i] = list[i-1]
		} else {
			list[i] = inputsByCode()[draw.Intn(10)]
		}
	}
	return list
}

// inputLists returns lists of valid inputs, most of which are legal nowhere.
func inputLists() [][]input {
	lists := [][]input{nil, {}, inputsByCode(), slices.Concat(inputsByCode(), inputsByCode())}
	for _, x := range inputsByCode() {
		for _, many := range []int{1, 2, 4, 5, 6, maxTicks - 1, maxTicks} {
			lists = append(lists, slices.Repeat([]input{x}, many))
		}
		lists = append(lists, slices.Concat(drives(7), []input{x}, drives(3)), slices.Concat([]input{x}, rolls(9)), append(rolls(9), x))
	}
	draw := rand.New(rand.NewSource(41))
	for many := range maxTicks + 1 {
		lists = append(lists, alternating(many), drawnInputs(draw, many), drawnInputs(draw, many))
	}
	return lists
}

// drawnIn returns a number from 0 to most, often one of both.
func drawnIn(draw *rand.Rand, most int) int {
	switch draw.Intn(5) {
	case 0:
		return 0
	case 1:
		return most
	}
	return draw.Intn(most + 1)
}

// replays returns valid replays of all kinds.
func replays() []replay {
	draw := rand.New(rand.NewSource(42))
	var list []replay
	for _, inputs := range inputLists() {
		r := replay{Level: drawnIn(draw, 99), Player: drawnIn(draw, 9), Score: drawnIn(draw, 60), Inputs: inputs, Tag: drawnIn(draw, 1000002)}
		for range len(inputs) / 5 {
			r.Hashes = append(r.Hashes, drawnIn(draw, 1000002))
		}
		list = append(list, r)
	}
	for _, many := range []int{0, 5, maxTicks} {
		inputs := drives(many)
		list = append(list, replay{Inputs: inputs, Hashes: repeated(0, many/5)})
		list = append(list, replay{Level: 99, Player: 9, Score: 60, Inputs: inputs, Hashes: repeated(1000002, many/5), Tag: 1000002})
	}
	return append(list, replaysOfRuns()...)
}

// replaysOfRuns returns replays that an honest player makes.
func replaysOfRuns() []replay {
	var list []replay
	for index, l := range raceLevels() {
		inputs := upToTheFinish(l, drives(l.Ticks))
		r := replay{Level: l.Id, Player: index % 10, Score: max(impl.RunScore(l, inputs), 0), Inputs: inputs, Hashes: impl.RunHashes(l, inputs)}
		list = append(list, withTag(r, tagByDefinition(index+1, listByDefinition(r))))
	}
	return list
}

// fewReplays returns some valid replays, of which everything that can be changed
// is changed.
func fewReplays() []replay {
	return []replay{
		{},
		{Level: 1, Player: 2, Score: 3, Inputs: []input{drive(), drive(), {}}, Tag: 7},
		{Level: 99, Player: 9, Score: 60, Inputs: []input{steer(-1), pause(), pause(), {Steer: 1, Power: 2}, {}, {}}, Hashes: []int{1000002}, Tag: 1000002},
		{Level: 10, Player: 0, Score: 10, Inputs: drives(12), Hashes: []int{0, 100}, Tag: 30},
		{Level: 20, Player: 5, Score: 0, Inputs: alternating(20), Hashes: []int{10, 0, 1, 999999}},
		{Level: 7, Player: 1, Score: 59, Inputs: rolls(maxTicks), Hashes: counted(12), Tag: 100000},
	}
}

// partsByDefinition returns the parts of valid inputs.
func partsByDefinition(list []input) []part {
	var parts []part
	for index, x := range list {
		if index > 0 && x == list[index-1] {
			parts[len(parts)-1].Many++
		} else {
			parts = append(parts, partOf(slices.Index(inputsByCode(), x), 1))
		}
	}
	return parts
}

// inputsByDefinition returns the inputs whose parts these are, and whether there
// are any.
func inputsByDefinition(parts []part) ([]input, bool) {
	list := []input{}
	for index, p := range parts {
		if p.Code < 0 || p.Code > 9 || p.Many <= 0 || p.Many > 60 {
			return nil, false
		}
		if index > 0 && p.Code == parts[index-1].Code {
			return nil, false
		}
		for range p.Many {
			list = append(list, inputsByCode()[p.Code])
		}
		if len(list) > 60 {
			return nil, false
		}
	}
	return list, true
}

// isAmong reports whether n is in the range low to high.
func isAmong(n, low, high int) bool { return n >= low && n <= high }

// replayByDefinition reports whether a replay is valid.
func replayByDefinition(r replay) bool {
	for _, x := range r.Inputs {
		if !validByDefinition(x) {
			return false
		}
	}
	for _, n := range append(slices.Clone(r.Hashes), r.Tag) {
		if !isAmong(n, 0, 1000002) {
			return false
		}
	}
	return isAmong(r.Level, 0, 99) && isAmong(r.Player, 0, 9) && isAmong(r.Score, 0, 60) && len(r.Inputs) <= 60 && len(r.Hashes) == len(r.Inputs)/5
}

// listByDefinition returns the numbers of a valid replay.
func listByDefinition(r replay) []int {
	list := []int{r.Level, r.Player, r.Score, len(r.Inputs)}
	for _, x := range r.Inputs {
		list = append(list, slices.Index(inputsByCode(), x))
	}
	return slices.Concat(list, r.Hashes)
}

// textByDefinition returns the text of a valid replay.
func textByDefinition(r replay) string {
	var text strings.Builder
	fmt.Fprintf(&text, "replay %d %d %d\ninputs", r.Level, r.Player, r.Score)
	for _, p := range partsByDefinition(r.Inputs) {
		fmt.Fprintf(&text, " %d %d", p.Code, p.Many)
	}
	text.WriteString("\nhashes")
	for _, n := range r.Hashes {
		fmt.Fprintf(&text, " %d", n)
	}
	fmt.Fprintf(&text, "\ntag %d\n", r.Tag)
	return text.String()
}

// textForm is how texts are written. All numbers with more than seven digits
// are out of range.
var textForm = regexp.MustCompile(strings.ReplaceAll(`\Areplay( N N N)\ninputs((?: N N)*)\nhashes((?: N)*)\ntag( N)\n\z`, "N", "(?:0|[1-9][0-9]{0,6})"))

// numbersIn returns all numbers among the words of a line.
func numbersIn(line string) []int {
	var list []int
	for _, word := range strings.Fields(line) {
		n, _ := strconv.Atoi(word)
		list = append(list, n)
	}
	return list
}

// replayOfText returns the replay whose text this is, and whether there is one.
func replayOfText(text string) (replay, bool) {
	found := textForm.FindStringSubmatch(text)
	if found == nil {
		return replay{}, false
	}
	head, numbers := numbersIn(found[1]), numbersIn(found[2])
	inputs, ok := inputsByDefinition(partsOf(numbers...))
	r := replay{Level: head[0], Player: head[1], Score: head[2], Inputs: inputs, Hashes: numbersIn(found[3]), Tag: numbersIn(found[4])[0]}
	if !ok || !replayByDefinition(r) {
		return replay{}, false
	}
	return r, true
}

func sameReplay(a, b replay) bool {
	return a.Level == b.Level && a.Player == b.Player && a.Score == b.Score && a.Tag == b.Tag &&
		slices.Equal(a.Inputs, b.Inputs) && slices.Equal(a.Hashes, b.Hashes)
}

// copyOf returns a replay with memory of its own.
func copyOf(r replay) replay {
	r.Inputs, r.Hashes = slices.Clone(r.Inputs), slices.Clone(r.Hashes)
	return r
}

// shownReplay shortens a replay for a message.
func shownReplay(r replay) string {
	return fmt.Sprintf("level %d, player %d, score %d, %s, %d hashes %v, tag %d", r.Level, r.Player, r.Score, shownInputs(r.Inputs), len(r.Hashes), r.Hashes[:min(len(r.Hashes), 15)], r.Tag)
}

// shownText shortens a text for a message.
func shownText(text string) string {
	return fmt.Sprintf("%d bytes %q", len(text), text[:min(len(text), 500)])
}

func shownParts(parts []part) string {
	return fmt.Sprintf("%d parts %v", len(parts), parts[:min(len(parts), maxTicks+2)])
}

func checkParts(t *testing.T, list []input, want []part) {
	t.Helper()
	if got := impl.ReplayParts(list); !slices.Equal(got, want) {
		t.Errorf("ReplayParts(%s) = %v, want %v", shownInputs(list), got, want)
	}
}

func checkInputs(t *testing.T, parts []part, want []input, wantOk bool) {
	t.Helper()
	if got, ok := impl.ReplayInputs(parts); !slices.Equal(got, want) || ok != wantOk {
		t.Errorf("ReplayInputs(%s) = %v, %v, want %v, %v", shownParts(parts), got, ok, want, wantOk)
	}
}

// checkNoParts checks that these are the parts of no inputs.
func checkNoParts(t *testing.T, parts ...part) {
	t.Helper()
	checkInputs(t, parts, nil, false)
}

func checkText(t *testing.T, text string, want replay, wantOk bool) {
	t.Helper()
	if got, ok := impl.ReplayDecode(text); !sameReplay(got, want) || ok != wantOk {
		t.Errorf("ReplayDecode of %s = %s, %v, want %s, %v", shownText(text), shownReplay(got), ok, shownReplay(want), wantOk)
	}
}

// checkNoText checks that a text is not that of a replay.
func checkNoText(t *testing.T, text string) {
	t.Helper()
	checkText(t, text, replay{}, false)
}

// checkReplay checks all functions with a valid replay.
func checkReplay(t *testing.T, r replay, list []int, text string) {
	t.Helper()
	if !impl.ReplayValid(r) {
		t.Errorf("ReplayValid fails for %s", shownReplay(r))
	}
	if got := impl.ReplayList(r); !slices.Equal(got, list) {
		t.Errorf("ReplayList of %s = %v, want %v", shownReplay(r), got, list)
	}
	if got := impl.ReplayEncode(r); got != text {
		t.Errorf("ReplayEncode of %s = %s, want %s", shownReplay(r), shownText(got), shownText(text))
	}
	checkText(t, text, r, true)
}

// checkNoReplay checks all functions with an invalid replay.
func checkNoReplay(t *testing.T, r replay) {
	t.Helper()
	if impl.ReplayValid(r) {
		t.Errorf("ReplayValid holds for %s", shownReplay(r))
	}
	if got := impl.ReplayList(r); len(got) != 0 {
		t.Errorf("ReplayList of %s = %v", shownReplay(r), got)
	}
	if got := impl.ReplayEncode(r); got != "" {
		t.Errorf("ReplayEncode of %s = %s", shownReplay(r), shownText(got))
	}
}

// invalidReplays returns replays that differ from a valid one in one thing.
func invalidReplays(r replay) []replay {
	var list []replay
	add := func(change func(bad *replay)) {
		bad := copyOf(r)
		change(&bad)
		list = append(list, bad)
	}
	for _, n := range outsideOf(0, 99) {
		add(func(bad *replay) { bad.Level = n })
	}
	for _, n := range outsideOf(0, 9) {
		add(func(bad *replay) { bad.Player = n })
	}
	for _, n := range outsideOf(0, 60) {
		add(func(bad *replay) { bad.Score = n })
	}
	for _, n := range outsideOf(0, 1000002) {
		add(func(bad *replay) { bad.Tag = n })
		for index := range r.Hashes {
			add(func(bad *replay) { bad.Hashes[index] = n })
		}
	}
	for _, n := range []int{0, 1, 1000002} {
		add(func(bad *replay) { bad.Hashes = append(bad.Hashes, n) })
		add(func(bad *replay) { bad.Hashes = append(repeated(n, 1+len(r.Inputs)), bad.Hashes...) })
	}
	for index := range r.Hashes {
		add(func(bad *replay) { bad.Hashes = bad.Hashes[:index] })
		add(func(bad *replay) { bad.Hashes = slices.Delete(bad.Hashes, index, index+1) })
	}
	invalid := invalidInputs()
	for index := range r.Inputs {
		for step := range 5 {
			add(func(bad *replay) { bad.Inputs[index] = invalid[(11*index+step)%len(invalid)] })
		}
	}
	return list
}

func TestConstantsOfChapter23(t *testing.T) {
	if players != 10 {
		t.Errorf("Players is %d", players)
	}
}

func TestPartsRows(t *testing.T) {
	rows := []struct {
		list []input
		want []part
	}{
		{nil, nil}, {[]input{}, nil}, {make([]input, 0, 9), nil}, {drives(9)[:0], nil},
		{rolls(1), partsOf(1, 1)}, {rolls(2), partsOf(1, 2)}, {drives(maxTicks), partsOf(4, 60)}, {pauses(maxTicks), partsOf(9, 60)},
		{[]input{drive(), drive(), {}}, partsOf(4, 2, 1, 1)},
		{[]input{drive(), {}, drive()}, partsOf(4, 1, 1, 1, 4, 1)},
		{[]input{{}, pause(), {}, {}, pause(), pause()}, partsOf(1, 1, 9, 1, 1, 2, 9, 2)},
		{[]input{steer(-1), steer(0), steer(1), steer(1)}, partsOf(0, 1, 1, 1, 2, 2)},
		{slices.Concat(drives(59), rolls(1)), partsOf(4, 59, 1, 1)}, {slices.Concat(rolls(1), drives(59)), partsOf(1, 1, 4, 59)},
		{slices.Concat(drives(10), pauses(11), drives(12)), partsOf(4, 10, 9, 11, 4, 12)},
		{alternating(maxTicks), slices.Repeat(partsOf(4, 1, 5, 1), 30)}, {alternating(3), partsOf(4, 1, 5, 1, 4, 1)},
	}
	for _, r := range rows {
		checkParts(t, r.list, r.want)
		checkInputs(t, r.want, r.list, true)
	}
}

func TestPartsByDefinition(t *testing.T) {
	for _, list := range inputLists() {
		checkParts(t, list, partsByDefinition(list))
		checkInputs(t, partsByDefinition(list), list, true)
	}
	eachList(inputsByCode(), 3, func(list []input) { checkParts(t, list, partsByDefinition(list)) })
	eachList([]input{drive(), pause()}, 9, func(list []input) { checkParts(t, list, partsByDefinition(list)) })
}

func TestPartsOfInvalidInputs(t *testing.T) {
	for _, x := range invalidInputs() {
		checkParts(t, []input{x}, nil)
		checkParts(t, []input{x, x}, nil)
		for _, list := range [][]input{drives(7), alternating(6), drives(maxTicks)} {
			for _, index := range []int{0, 1, len(list) / 2, len(list) - 2, len(list) - 1} {
				bad := slices.Clone(list)
				bad[index] = x
				checkParts(t, bad, nil)
			}
		}
	}
}

func TestPartsOfTooManyInputs(t *testing.T) {
	for _, many := range []int{maxTicks + 1, maxTicks + 2, 2 * maxTicks, 256, 256 + maxTicks, 65536 + 3, 300000} {
		checkParts(t, drives(many), nil)
		checkParts(t, rolls(many), nil)
		checkParts(t, alternating(many), nil)
		checkParts(t, append(drives(many-1), steer(2)), nil)
	}
}

// What is behind a list in memory does not count.
func TestWhatIsBehindPartsIsIgnored(t *testing.T) {
	list := append(drives(20), steer(2))
	parts := partsOf(4, 20, 5, 40, 5, 1, 10, 0)
	for many := 1; many <= 20; many++ {
		checkParts(t, list[:many], partsOf(4, many))
	}
	checkParts(t, list, nil)
	checkInputs(t, parts[:1], drives(20), true)
	checkInputs(t, parts[:0], nil, true)
	checkNoParts(t, parts[:3]...)
}

// The parts of no inputs are no parts, so that these have inputs: none.
func TestInputsOfNoParts(t *testing.T) {
	for _, empty := range [][]part{nil, {}, make([]part, 0, 9), onesOf(9)[:0]} {
		checkInputs(t, empty, nil, true)
	}
}

func TestInputsOfNumbers(t *testing.T) {
	for code, x := range inputsByCode() {
		for many := 1; many <= maxTicks; many++ {
			checkInputs(t, partsOf(code, many), slices.Repeat([]input{x}, many), true)
		}
		for _, many := range outsideOf(1, maxTicks) {
			checkNoParts(t, partOf(code, many))
			checkNoParts(t, partOf(code, many), partOf((code+1)%10, 1))
			checkNoParts(t, partOf((code+1)%10, 1), partOf(code, many))
			checkNoParts(t, partOf((code+1)%10, 1), partOf(code, many), partOf((code+2)%10, 1))
		}
	}
}

func TestInputsOfSums(t *testing.T) {
	checkInputs(t, partsOf(4, 30, 5, 30), slices.Concat(drives(30), slices.Repeat([]input{{Steer: 1, Power: powerGo}}, 30)), true)
	checkInputs(t, partsOf(4, 59, 1, 1), append(drives(59), input{}), true)
	checkInputs(t, onesOf(maxTicks), alternating(maxTicks), true)
	for n := 1; n < maxTicks; n++ {
		checkInputs(t, partsOf(1, n, 9, maxTicks-n), append(rolls(n), pauses(maxTicks-n)...), true)
		checkNoParts(t, partOf(1, n), partOf(9, maxTicks-n+1))
		checkNoParts(t, partOf(1, n), partOf(9, maxTicks-n), partOf(1, 1))
		checkNoParts(t, partOf(1, n), partOf(9, maxTicks-n), partOf(1, 0))
	}
	for _, many := range []int{maxTicks + 1, maxTicks + 2, 256, 65536 + 5, 300000} {
		checkNoParts(t, onesOf(many)...)
	}
}

// The sum of some of these numbers is at most MaxTicks if it is not looked at
// closely, or in integers that wrap around.
func TestInputsOfWrongSums(t *testing.T) {
	rows := [][]int{
		{0}, {-1}, {61}, {60, 1}, {1, 60}, {30, 31}, {20, 20, 21}, {0, 5}, {5, 0}, {5, 0, 5}, {60, 0}, {0, 60}, {0, 0},
		{61, -1}, {-1, 61}, {70, -60}, {-1, 2}, {2, -1}, {-1, -1}, {60, -1}, {30, 31, -1}, {-60, 60, 60}, {1, -1}, {5, -5, 5},
		{math.MaxInt}, {math.MinInt}, {math.MaxInt, 1}, {1, math.MaxInt}, {60, math.MaxInt}, {60, math.MaxInt - 59}, {math.MaxInt, math.MaxInt}, {math.MaxInt, math.MaxInt, 2}, {math.MaxInt, math.MaxInt, 7},
		{math.MinInt, math.MinInt}, {math.MinInt, math.MinInt, 5}, {math.MaxInt, math.MinInt, 1}, {math.MinInt, math.MaxInt, 9}, {5, math.MinInt, math.MinInt}, {60, math.MinInt}, {1, math.MinInt}, {10, math.MinInt + 60},
		{1 << 62, 1 << 62, 1 << 62, 1 << 62}, {1 << 62, 1 << 62, 1 << 62, 1 << 62, 3}, {3, 1 << 62, 1 << 62, 1 << 62, 1 << 62}, {1 << 32}, {1<<32 + 1}, {1 << 31, 1 << 31}, {1<<31 + 5, 1 << 31}, {256}, {256 + 5}, {65536 + 5}, {-1 << 32},
	}
	for _, numbers := range rows {
		var parts []part
		for index, n := range numbers {
			parts = append(parts, partOf(1+3*(index%2), n))
		}
		checkNoParts(t, parts...)
	}
}

func TestInputsOfNoCodes(t *testing.T) {
	for _, code := range noCodes() {
		for _, many := range []int{1, 5, 60} {
			checkNoParts(t, partOf(code, many))
		}
		for _, many := range []int{0, -1, 61} {
			checkNoParts(t, partOf(code, many))
		}
		checkNoParts(t, partOf(code, 1), partOf(4, 1))
		checkNoParts(t, partOf(4, 1), partOf(code, 1))
		checkNoParts(t, partOf(4, 1), partOf(code, 1), partOf(4, 1))
		checkNoParts(t, partOf(4, 1), partOf(code, 1), partOf(code, 1))
		checkNoParts(t, partOf(code, 1), partOf(code, 1), partOf(4, 1))
	}
}

func TestInputsOfEqualNeighbours(t *testing.T) {
	for code, x := range inputsByCode() {
		other := partOf((code+3)%10, 2)
		y := inputsByCode()[other.Code]
		checkInputs(t, []part{partOf(code, 1), other, partOf(code, 1)}, []input{x, y, y, x}, true)
		checkNoParts(t, partOf(code, 1), partOf(code, 1))
		checkNoParts(t, partOf(code, 2), partOf(code, 3))
		checkNoParts(t, partOf(code, 2), partOf(code, 0))
		checkNoParts(t, partOf(code, 1), partOf(code, 1), other)
		checkNoParts(t, other, partOf(code, 1), partOf(code, 1))
		checkNoParts(t, other, partOf(code, 1), partOf(code, 1), other)
		checkNoParts(t, partOf(code, 1), other, partOf(code, 1), partOf(code, 2))
		checkNoParts(t, slices.Repeat(partsOf(code, 1), 60)...)
	}
}

func TestInputsByDefinition(t *testing.T) {
	draw := rand.New(rand.NewSource(43))
	right, wrong := 0, 0
	for range 20000 {
		parts := make([]part, draw.Intn(12))
		for i := range parts {
			parts[i] = partOf(draw.Intn(10), 1+draw.Intn(12))
			switch draw.Intn(60) {
			case 0:
				parts[i].Code = noCodes()[draw.Intn(len(noCodes()))]
			case 1:
				parts[i].Many = drawnIn(draw, 70) - 5
			case 2:
				parts[i] = parts[max(i-1, 0)]
			}
		}
		want, ok := inputsByDefinition(parts)
		checkInputs(t, parts, want, ok)
		if ok {
			right++
		} else {
			wrong++
		}
	}
	if right < 1000 || wrong < 1000 {
		t.Errorf("%d lists of parts have inputs, and %d have none", right, wrong)
	}
}

func TestReplayRows(t *testing.T) {
	few := fewReplays()
	checkReplay(t, few[0], []int{0, 0, 0, 0}, "replay 0 0 0\ninputs\nhashes\ntag 0\n")
	checkReplay(t, few[1], []int{1, 2, 3, 3, 4, 4, 1}, "replay 1 2 3\ninputs 4 2 1 1\nhashes\ntag 7\n")
	checkReplay(t, few[2], []int{99, 9, 60, 6, 0, 9, 9, 8, 1, 1, 1000002}, "replay 99 9 60\ninputs 0 1 9 2 8 1 1 2\nhashes 1000002\ntag 1000002\n")
	checkReplay(t, few[3], []int{10, 0, 10, 12, 4, 4, 4, 4, 4, 4, 4, 4, 4, 4, 4, 4, 0, 100}, "replay 10 0 10\ninputs 4 12\nhashes 0 100\ntag 30\n")
	checkReplay(t, few[4], slices.Concat([]int{20, 5, 0, 20}, slices.Repeat([]int{4, 5}, 10), []int{10, 0, 1, 999999}),
		"replay 20 5 0\ninputs"+strings.Repeat(" 4 1 5 1", 10)+"\nhashes 10 0 1 999999\ntag 0\n")
	checkReplay(t, few[5], slices.Concat([]int{7, 1, 59, 60}, repeated(1, 60), counted(12)), "replay 7 1 59\ninputs 1 60\nhashes 0 1 2 3 4 5 6 7 8 9 10 11\ntag 100000\n")
}

func TestReplaysByDefinition(t *testing.T) {
	for _, r := range replays() {
		checkReplay(t, r, listByDefinition(r), textByDefinition(r))
	}
}

func TestInvalidReplays(t *testing.T) {
	for _, r := range slices.Concat(fewReplays(), replays()[:200]) {
		for _, bad := range invalidReplays(r) {
			checkNoReplay(t, bad)
		}
	}
}

func TestReplaysWithEachInvalidInput(t *testing.T) {
	for _, x := range invalidInputs() {
		checkNoReplay(t, replay{Inputs: []input{x}})
		for _, r := range fewReplays() {
			for _, index := range []int{0, len(r.Inputs) / 2, len(r.Inputs) - 1} {
				if len(r.Inputs) > 0 {
					bad := copyOf(r)
					bad.Inputs[index] = x
					checkNoReplay(t, bad)
				}
			}
		}
	}
}

// The smallest and the largest value of each number, and one beyond.
func TestTheLimitsOfReplays(t *testing.T) {
	base := withReplayInputs(replay{}, drives(7))
	check := func(most int, change func(r *replay, n int)) {
		for _, n := range []int{0, 1, most / 2, most - 1, most} {
			r := copyOf(base)
			change(&r, n)
			checkReplay(t, r, listByDefinition(r), textByDefinition(r))
		}
		for _, n := range outsideOf(0, most) {
			r := copyOf(base)
			change(&r, n)
			checkNoReplay(t, r)
			// The number is written as it should be, but is none of a replay.
			checkNoText(t, textByDefinition(r))
		}
	}
	check(99, func(r *replay, n int) { r.Level = n })
	check(9, func(r *replay, n int) { r.Player = n })
	check(60, func(r *replay, n int) { r.Score = n })
	check(1000002, func(r *replay, n int) { r.Hashes[0] = n })
	check(1000002, func(r *replay, n int) { r.Tag = n })
}

func TestTheNumberOfHashesOfReplays(t *testing.T) {
	for inputs := range maxTicks + 1 {
		for _, list := range [][]input{drives(inputs), alternating(inputs), pauses(inputs)} {
			for many := range 16 {
				r := withHashes(replay{Level: 5, Inputs: list}, counted(many)...)
				if many == inputs/5 {
					checkReplay(t, r, listByDefinition(r), textByDefinition(r))
				} else {
					checkNoReplay(t, r)
					checkNoText(t, textByDefinition(r))
				}
			}
			checkNoReplay(t, withHashes(replay{Inputs: list}, counted(inputs+300)...))
		}
	}
}

func TestTheNumberOfInputsOfReplays(t *testing.T) {
	for _, many := range []int{maxTicks + 1, maxTicks + 4, maxTicks + 5, 2 * maxTicks, 256 + 5, 65536 + 5} {
		for _, list := range [][]input{drives(many), alternating(many)} {
			r := withReplayInputs(replay{Level: 3}, list)
			checkNoReplay(t, r)
			checkNoReplay(t, withHashes(r, counted(12)...))
			checkNoReplay(t, withHashes(r))
			checkNoText(t, textByDefinition(withHashes(r, counted(12)...)))
			checkNoText(t, textByDefinition(r))
		}
	}
	r := withReplayInputs(replay{Level: 3}, alternating(maxTicks))
	checkReplay(t, r, listByDefinition(r), textByDefinition(r))
}

// Whether inputs are legal, the score is that of the run, and the hashes and the
// tag are right, does not matter to a replay.
func TestReplaysOfNoRuns(t *testing.T) {
	list := []replay{
		withReplayInputs(replay{Level: 98, Score: 60}, pauses(maxTicks)), {Inputs: []input{steer(-1), steer(1)}, Score: 1},
		withReplayInputs(replay{Score: 7}, slices.Repeat([]input{steer(1), steer(-1), pause()}, 20)), {Score: 60, Tag: 1},
	}
	for _, r := range list {
		checkReplay(t, r, listByDefinition(r), textByDefinition(r))
	}
}

func TestReplaysWithNilAndEmptySlices(t *testing.T) {
	for _, inputs := range [][]input{nil, {}, make([]input, 0, 9), drives(9)[:0]} {
		for _, claimed := range [][]int{nil, {}, make([]int, 0, 9), counted(9)[:0]} {
			checkReplay(t, replay{Level: 4, Inputs: inputs, Hashes: claimed, Tag: 5}, []int{4, 0, 0, 0}, "replay 4 0 0\ninputs\nhashes\ntag 5\n")
		}
	}
	// What is behind the end of a slice is not part of the replay.
	inputs, claimed := append(drives(5), steer(2)), []int{8, -1}
	checkReplay(t, replay{Inputs: inputs[:5], Hashes: claimed[:1]}, []int{0, 0, 0, 5, 4, 4, 4, 4, 4, 8}, "replay 0 0 0\ninputs 4 5\nhashes 8\ntag 0\n")
}

func TestReplaysLeaveTheirArguments(t *testing.T) {
	for _, r := range slices.Concat(fewReplays(), replays(), invalidReplays(fewReplays()[2])) {
		// What is behind the slices in memory is not touched either.
		inputs, claimed := slices.Concat(r.Inputs, alternating(200)), slices.Concat(r.Hashes, counted(200))
		parts := slices.Concat(impl.ReplayParts(r.Inputs), partsOf(4, 1, 4, 0), onesOf(100))
		inputsBefore, claimedBefore, partsBefore := slices.Clone(inputs), slices.Clone(claimed), slices.Clone(parts)
		other := r
		other.Inputs, other.Hashes = inputs[:len(r.Inputs)], claimed[:len(r.Hashes)]
		impl.ReplayValid(other)
		impl.ReplayList(other)
		impl.ReplayEncode(other)
		impl.ReplayParts(other.Inputs)
		for n := range parts {
			impl.ReplayInputs(parts[:n])
		}
		if !slices.Equal(inputs, inputsBefore) || !slices.Equal(claimed, claimedBefore) {
			t.Errorf("the inputs or the hashes of %s were changed", shownReplay(r))
		}
		if !slices.Equal(parts, partsBefore) {
			t.Errorf("%v were changed to %v", partsBefore, parts)
		}
	}
}

// overwrite writes a number to all of a list, also behind its end.
func overwrite[T any](list []T, value T) {
	whole := list[:cap(list)]
	for i := range whole {
		whole[i] = value
	}
}

// Neither of two results is changed by the other one, nor an argument by a
// result, not even behind their ends.
func TestReplaysGiveNewMemory(t *testing.T) {
	for _, r := range slices.Concat(fewReplays(), replays()) {
		before, text := copyOf(r), textByDefinition(r)
		parts := partsByDefinition(r.Inputs)
		partsBefore := slices.Clone(parts)
		first, _ := impl.ReplayDecode(text)
		firstList, firstParts := impl.ReplayList(r), impl.ReplayParts(r.Inputs)
		firstInputs, _ := impl.ReplayInputs(parts)
		for range 2 {
			other, _ := impl.ReplayDecode(text)
			inputs, _ := impl.ReplayInputs(parts)
			overwrite(other.Inputs, steer(7))
			overwrite(other.Hashes, -7)
			overwrite(inputs, steer(7))
			overwrite(impl.ReplayList(r), -7)
			overwrite(impl.ReplayParts(r.Inputs), partOf(-7, -7))
		}
		if !sameReplay(r, before) || !slices.Equal(parts, partsBefore) {
			t.Errorf("what is written to a result changes %s", shownReplay(before))
		}
		if !sameReplay(first, before) || !slices.Equal(firstList, listByDefinition(before)) || !slices.Equal(firstParts, partsBefore) || !slices.Equal(firstInputs, before.Inputs) {
			t.Errorf("what is written to one result of %s is found in another one", shownReplay(before))
		}
	}
}

// Whoever writes to the memory of an argument later changes no result.
func TestReplaysKeepNoArguments(t *testing.T) {
	for _, r := range fewReplays() {
		inputs, claimed, parts := slices.Clone(r.Inputs), slices.Clone(r.Hashes), partsByDefinition(r.Inputs)
		list, firstParts := impl.ReplayList(r), impl.ReplayParts(r.Inputs)
		firstInputs, _ := impl.ReplayInputs(parts)
		decoded, _ := impl.ReplayDecode(textByDefinition(r))
		want := listByDefinition(r)
		overwrite(r.Inputs, steer(7))
		overwrite(r.Hashes, -7)
		overwrite(parts, partOf(-7, -7))
		if !slices.Equal(list, want) || !slices.Equal(firstParts, partsByDefinition(inputs)) || !slices.Equal(firstInputs, inputs) {
			t.Errorf("what is written to the arguments is found in results: %v, %v, %v", list, firstParts, firstInputs)
		}
		if !slices.Equal(decoded.Inputs, inputs) || !slices.Equal(decoded.Hashes, claimed) {
			t.Errorf("what is written to the arguments is found in %s", shownReplay(decoded))
		}
	}
}

func TestReplaysKeepNoState(t *testing.T) {
	for range 3 {
		checkReplay(t, fewReplays()[1], []int{1, 2, 3, 3, 4, 4, 1}, "replay 1 2 3\ninputs 4 2 1 1\nhashes\ntag 7\n")
		checkNoText(t, "replay 1 2 3\ninputs 4 2 1 1\nhashes\ntag 7")
		checkNoReplay(t, replay{Level: 100})
		checkParts(t, drives(3), partsOf(4, 3))
		checkParts(t, []input{steer(2)}, nil)
		checkInputs(t, partsOf(4, 3), drives(3), true)
		checkNoParts(t, partOf(4, 61))
		checkInputs(t, nil, nil, true)
		checkText(t, "replay 0 0 0\ninputs\nhashes\ntag 0\n", replay{}, true)
	}
}
