package tests

import (
	"math/rand"
	"slices"
	"strings"
	"testing"

	"loop.example/replayverifier/impl"
)

// eachParts calls check with parts of which ReplayInputs succeeds.
func eachParts(t *testing.T, check func(parts []part, list []input)) {
	t.Helper()
	draw := rand.New(rand.NewSource(45))
	many := 0
	for range 20000 {
		parts := make([]part, draw.Intn(9))
		for i := range parts {
			parts[i] = partOf(draw.Intn(12)-1, draw.Intn(14))
		}
		if list, ok := impl.ReplayInputs(parts); ok {
			many++
			check(parts, list)
		}
	}
	for many := range maxTicks + 1 {
		if list, ok := impl.ReplayInputs(onesOf(many)); ok {
			check(onesOf(many), list)
		} else {
			t.Errorf("ReplayInputs(%s) fails", shownParts(onesOf(many)))
		}
	}
	if many < 1000 {
		t.Errorf("ReplayInputs succeeds for only %d lists of parts", many)
	}
}

// eachText calls check with texts of which ReplayDecode succeeds, many of which
// are written by hand rather than by ReplayEncode.
func eachText(t *testing.T, check func(text string, r replay)) {
	t.Helper()
	draw := rand.New(rand.NewSource(46))
	list := replays()
	many := 0
	for index := range 30000 {
		text := textByDefinition(list[index%len(list)])
		if index >= len(list) {
			text = drawnText(draw, text)
		}
		if r, ok := impl.ReplayDecode(text); ok {
			many++
			check(text, r)
		}
	}
	if many < 1500 {
		t.Errorf("ReplayDecode succeeds for only %d texts", many)
	}
}

func TestP118(t *testing.T) {
	for _, list := range inputLists() {
		checkInputs(t, impl.ReplayParts(list), list, true)
	}
	eachList(inputsByCode(), 3, func(list []input) { checkInputs(t, impl.ReplayParts(list), list, true) })
	eachList([]input{drive(), {}}, 10, func(list []input) { checkInputs(t, impl.ReplayParts(list), list, true) })
}

func TestP119(t *testing.T) {
	eachParts(t, func(parts []part, list []input) { checkParts(t, list, parts) })
}

func TestP120(t *testing.T) {
	for _, list := range inputLists() {
		sum, before := 0, -1
		for _, p := range impl.ReplayParts(list) {
			if p.Many < 1 || p.Code == before {
				t.Errorf("ReplayParts(%s) has %v behind the code %d", shownInputs(list), p, before)
			}
			sum += p.Many
			before = p.Code
		}
		if sum != len(list) {
			t.Errorf("the numbers of ReplayParts(%s) add up to %d", shownInputs(list), sum)
		}
	}
}

func TestP121(t *testing.T) {
	for code, x := range inputsByCode() {
		for many := 1; many <= maxTicks; many++ {
			checkParts(t, slices.Repeat([]input{x}, many), partsOf(code, many))
		}
		checkParts(t, slices.Repeat([]input{x}, maxTicks+1), nil)
	}
}

func TestP122(t *testing.T) {
	for _, r := range slices.Concat(fewReplays(), replays()) {
		checkText(t, impl.ReplayEncode(r), r, true)
	}
}

func TestP123(t *testing.T) {
	eachText(t, func(text string, r replay) {
		if got := impl.ReplayEncode(r); got != text {
			t.Errorf("ReplayDecode of %s is %s, the text of which is %s", shownText(text), shownReplay(r), shownText(got))
		}
		if !impl.ReplayValid(r) {
			t.Errorf("ReplayDecode of %s is %s, which is invalid", shownText(text), shownReplay(r))
		}
	})
}

func TestP124(t *testing.T) {
	eachText(t, func(text string, r replay) {
		checkNoText(t, text+"\n")
		for i := range len(text) {
			checkNoText(t, text[:i])
		}
	})
}

func TestP125(t *testing.T) {
	eachText(t, func(text string, r replay) {
		checkNoTexts(t, replacedAt(text, "\n", " \n"))
	})
}

func TestP126(t *testing.T) {
	for _, r := range slices.Concat(fewReplays(), replays()) {
		list := impl.ReplayList(r)
		many := len(r.Inputs)
		if len(list) != 4+many+len(r.Hashes) {
			t.Errorf("ReplayList of %s has %d numbers", shownReplay(r), len(list))
			continue
		}
		if list[0] != r.Level || list[1] != r.Player || list[2] != r.Score || list[3] != many {
			t.Errorf("ReplayList of %s begins with %v", shownReplay(r), list[:4])
		}
		for index, code := range list[4 : 4+many] {
			if code != impl.InputCode(r.Inputs[index]) {
				t.Errorf("ReplayList of %s has the code %d of input %d", shownReplay(r), code, index)
			}
		}
		if !slices.Equal(list[4+many:], r.Hashes) {
			t.Errorf("ReplayList of %s ends with %v", shownReplay(r), list[4+many:])
		}
	}
}

// The list of a valid replay can be tagged.
func TestP126ForTags(t *testing.T) {
	for _, r := range replays() {
		list := impl.ReplayList(r)
		if tag := impl.TagOf(7, list); !impl.TagCheck(7, list, tag) || len(list) > maxList {
			t.Errorf("ReplayList of %s has the tag %d", shownReplay(r), tag)
		}
	}
}

func TestP127(t *testing.T) {
	for _, r := range slices.Concat(fewReplays(), replays()) {
		if !impl.ReplayValid(r) || len(r.Hashes) != len(r.Inputs)/every {
			t.Errorf("ReplayValid is %v for %s", impl.ReplayValid(r), shownReplay(r))
		}
		for _, n := range []int{0, 17, 1000002} {
			checkNoReplay(t, withHashes(r, slices.Concat(r.Hashes, []int{n})...))
			checkNoReplay(t, withHashes(r, slices.Concat([]int{n}, r.Hashes)...))
		}
		if len(r.Hashes) > 0 {
			checkNoReplay(t, withHashes(r, r.Hashes[1:]...))
		}
	}
}

func TestP128(t *testing.T) {
	for _, r := range slices.Concat(fewReplays(), replays()) {
		list := impl.ReplayList(r)
		for _, tag := range []int{0, 1, 7, 500000, 1000001, 1000002} {
			if got := impl.ReplayList(withTag(r, tag)); !slices.Equal(got, list) || len(got) == 0 {
				t.Errorf("ReplayList of %s is %v, but %v with the tag %d", shownReplay(r), list, got, tag)
			}
		}
		// With such a tag, the replay is invalid.
		checkNoReplay(t, withTag(r, 1000003))
		checkNoReplay(t, withTag(r, -1))
	}
}

func TestP129(t *testing.T) {
	for _, empty := range [][]part{nil, {}} {
		checkInputs(t, empty, nil, true)
	}
	for _, empty := range [][]input{nil, {}} {
		checkParts(t, empty, nil)
	}
}

func TestP130(t *testing.T) {
	eachParts(t, func(parts []part, list []input) {
		for i, p := range parts {
			for _, many := range []int{1, p.Many, maxTicks - len(list)} {
				checkNoParts(t, slices.Insert(slices.Clone(parts), i, partOf(p.Code, many))...)
			}
			// The same inputs, but not as few parts as possible.
			for many := 1; many < p.Many; many++ {
				more := slices.Insert(slices.Clone(parts), i, partOf(p.Code, many))
				more[i+1].Many -= many
				checkNoParts(t, more...)
			}
		}
	})
}

func TestP131(t *testing.T) {
	for _, r := range slices.Concat(fewReplays(), replays()) {
		text := impl.ReplayEncode(r)
		if !strings.HasPrefix(text, "replay ") || !strings.HasSuffix(text, "\n") || strings.Count(text, "\n") != 4 {
			t.Errorf("ReplayEncode of %s = %s", shownReplay(r), shownText(text))
			continue
		}
		for index, word := range []string{"replay", "inputs", "hashes", "tag"} {
			if !strings.HasPrefix(linesOf(text)[index], word) {
				t.Errorf("line %d of %s does not begin with %q", index, shownText(text), word)
			}
		}
	}
}
