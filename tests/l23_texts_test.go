package tests

import (
	"math/rand"
	"regexp"
	"slices"
	"strings"
	"testing"

	"loop.example/replayverifier/impl"
)

// fewTexts returns the texts of some replays.
func fewTexts() []string {
	var list []string
	for _, r := range fewReplays() {
		list = append(list, textByDefinition(r))
	}
	return list
}

// inserted returns the texts with something more at each place.
func inserted(text, more string) []string {
	var list []string
	for i := range len(text) + 1 {
		list = append(list, text[:i]+more+text[i:])
	}
	return list
}

// replacedAt returns the texts with something else instead of each place that
// looks like a pattern, for which one can write $0.
func replacedAt(text, pattern, other string) []string {
	form := regexp.MustCompile(pattern)
	var list []string
	for _, place := range form.FindAllStringSubmatchIndex(text, -1) {
		instead := form.ExpandString(nil, other, text, place)
		list = append(list, text[:place[0]]+string(instead)+text[place[1]:])
	}
	return list
}

// checkNoTexts checks that none of the texts is that of a replay.
func checkNoTexts(t *testing.T, texts []string) {
	t.Helper()
	for _, text := range texts {
		checkNoText(t, text)
	}
}

// checkAnyText checks a text that may or may not be that of a replay, and
// reports which.
func checkAnyText(t *testing.T, text string) bool {
	t.Helper()
	want, ok := replayOfText(text)
	checkText(t, text, want, ok)
	return ok
}

func TestTextRows(t *testing.T) {
	head, tail := "replay 1 2 3\n", "tag 7\n"
	rows := []struct {
		text string
		want replay
	}{
		{head + "inputs\nhashes\n" + tail, replay{Level: 1, Player: 2, Score: 3, Tag: 7}},
		{head + "inputs 9 2\nhashes\n" + tail, replay{Level: 1, Player: 2, Score: 3, Inputs: pauses(2), Tag: 7}},
		{head + "inputs 4 5\nhashes 0\n" + tail, replay{Level: 1, Player: 2, Score: 3, Inputs: drives(5), Hashes: []int{0}, Tag: 7}},
		{head + "inputs 4 5 1 5\nhashes 10 20\n" + tail, replay{Level: 1, Player: 2, Score: 3, Inputs: append(drives(5), rolls(5)...), Hashes: []int{10, 20}, Tag: 7}},
		{"replay 10 0 10\ninputs 4 1 1 1 4 1\nhashes\ntag 10\n", replay{Level: 10, Score: 10, Inputs: []input{drive(), {}, drive()}, Tag: 10}},
	}
	for _, r := range rows {
		checkText(t, r.text, r.want, true)
		if got := impl.ReplayEncode(r.want); got != r.text {
			t.Errorf("ReplayEncode of %s = %q, want %q", shownReplay(r.want), got, r.text)
		}
	}
}

func TestNoTextRows(t *testing.T) {
	checkNoTexts(t, []string{
		"", "\n", "\n\n\n\n", "\n\n\n\n\n", " ", "replay", "replay\n", "replay\ninputs\nhashes\ntag\n", "replay 1 2 3", "replay 1 2 3\n",
		"replay 1 2 03\ninputs\nhashes\ntag 7\n",
		// Too few and too many numbers.
		"replay\ninputs\nhashes\ntag 7\n", "replay 1\ninputs\nhashes\ntag 7\n", "replay 1 2\ninputs\nhashes\ntag 7\n", "replay 1 2 3 4\ninputs\nhashes\ntag 7\n",
		"replay 1 2 3\ninputs 4\nhashes\ntag 7\n", "replay 1 2 3\ninputs 4 1 5\nhashes\ntag 7\n", "replay 1 2 3\ninputs 4 1 5 1 1\nhashes\ntag 7\n",
		"replay 1 2 3\ninputs\nhashes 1\ntag 7\n", "replay 1 2 3\ninputs 4 5\nhashes\ntag 7\n", "replay 1 2 3\ninputs 4 4\nhashes 1\ntag 7\n", "replay 1 2 3\ninputs 4 5\nhashes 1 2\ntag 7\n",
		"replay 1 2 3\ninputs\nhashes\ntag\n", "replay 1 2 3\ninputs\nhashes\ntag 7 7\n", "replay 1 2 3\ninputs\nhashes\ntag 7 8\n",
		// Parts of no inputs.
		"replay 1 2 3\ninputs 4 0\nhashes\ntag 7\n", "replay 1 2 3\ninputs 4 -1\nhashes\ntag 7\n", "replay 1 2 3\ninputs 10 1\nhashes\ntag 7\n", "replay 1 2 3\ninputs -1 1\nhashes\ntag 7\n",
		"replay 1 2 3\ninputs 4 1 4 1\nhashes\ntag 7\n", "replay 1 2 3\ninputs 4 1 1 0 4 1\nhashes\ntag 7\n", "replay 1 2 3\ninputs 4 2 5 0\nhashes\ntag 7\n",
		"replay 1 2 3\ninputs 4 61\nhashes 0 1 2 3 4 5 6 7 8 9 10 11\ntag 7\n", "replay 1 2 3\ninputs 4 60 5 1\nhashes 0 1 2 3 4 5 6 7 8 9 10 11\ntag 7\n",
		"replay 1 2 3\ninputs 4 9223372036854775807 5 9223372036854775807 4 3\nhashes\ntag 7\n", "replay 1 2 3\ninputs 4 61 5 -60\nhashes\ntag 7\n",
		"replay 1 2 3\ninputs 9223372036854775807 1\nhashes\ntag 7\n", "replay 1 2 3\ninputs 18446744073709551620 1\nhashes\ntag 7\n", "replay 1 2 3\ninputs 4 18446744073709551617\nhashes\ntag 7\n",
		// Numbers out of range.
		"replay 100 2 3\ninputs\nhashes\ntag 7\n", "replay 1 10 3\ninputs\nhashes\ntag 7\n", "replay 1 2 61\ninputs\nhashes\ntag 7\n", "replay 1 2 3\ninputs\nhashes\ntag 1000003\n",
		"replay -1 2 3\ninputs\nhashes\ntag 7\n", "replay 1 -2 3\ninputs\nhashes\ntag 7\n", "replay 1 2 -3\ninputs\nhashes\ntag 7\n", "replay 1 2 3\ninputs\nhashes\ntag -7\n",
		"replay 1 2 3\ninputs 4 5\nhashes 1000003\ntag 7\n", "replay 1 2 3\ninputs 4 5\nhashes -1\ntag 7\n",
	})
}

// A blank too many is not taken anywhere: ahead of, between and behind the words
// of a line, and within them.
func TestTextsWithAdditionalBlanks(t *testing.T) {
	for _, text := range fewTexts() {
		for _, more := range []string{" ", "  ", "    "} {
			checkNoTexts(t, inserted(text, more))
		}
		checkNoText(t, strings.ReplaceAll(text, " ", "  "))
		checkNoText(t, strings.ReplaceAll(text, "\n", " \n"))
		checkNoText(t, strings.ReplaceAll(text, "\n", "\n "))
	}
}

func TestTextsWithAMissingBlank(t *testing.T) {
	for _, text := range fewTexts() {
		for _, other := range []string{"", "0", "_", ",", ", ", "\u00a0", "\u2003", "\x00"} {
			checkNoTexts(t, replacedAt(text, " ", other))
		}
		checkNoText(t, strings.ReplaceAll(text, " ", ""))
	}
}

func TestTextsWithOtherWhiteSpace(t *testing.T) {
	for _, text := range fewTexts() {
		for _, other := range []string{"\t", "\r", "\v", "\f", "\u0085", "\u00a0", "\u2028", "\u3000", "\x00", "\r\n", " \t", "\t "} {
			checkNoTexts(t, inserted(text, other))
			checkNoTexts(t, replacedAt(text, " ", other))
			checkNoTexts(t, replacedAt(text, "\n", other))
			checkNoText(t, strings.ReplaceAll(text, "\n", other))
			checkNoText(t, strings.ReplaceAll(text, " ", other))
		}
		checkNoTexts(t, replacedAt(text, "\n", "\n\r"))
	}
}

func TestTextsWithOtherNewlines(t *testing.T) {
	for _, text := range fewTexts() {
		checkNoTexts(t, inserted(text, "\n"))
		checkNoTexts(t, inserted(text, "\n\n"))
		for _, other := range []string{"", " ", "; ", "\\n"} {
			checkNoTexts(t, replacedAt(text, "\n", other))
		}
		checkNoTexts(t, replacedAt(text, " ", "\n"))
		checkNoText(t, strings.TrimRight(text, "\n"))
		checkNoText(t, strings.ReplaceAll(text, "\n", "\n\n"))
	}
}

// linesOf returns the lines of a text with their newlines.
func linesOf(text string) []string {
	lines := strings.SplitAfter(text, "\n")
	return lines[:len(lines)-1]
}

func TestTextsWithOtherLines(t *testing.T) {
	for _, text := range fewTexts() {
		lines := linesOf(text)
		for i, line := range lines {
			checkNoText(t, strings.Join(slices.Delete(slices.Clone(lines), i, i+1), ""))
			for at := range len(lines) + 1 {
				for _, more := range []string{line, "\n", "replay\n", "tag 7\n", "inputs\n", "hashes\n", "what 1\n"} {
					checkNoText(t, strings.Join(slices.Insert(slices.Clone(lines), at, more), ""))
				}
			}
			for j := range lines {
				exchanged := slices.Clone(lines)
				exchanged[i], exchanged[j] = lines[j], lines[i]
				if i != j {
					checkNoText(t, strings.Join(exchanged, ""))
				}
				exchanged[j] = exchanged[i]
				if i != j {
					checkNoText(t, strings.Join(exchanged, ""))
				}
			}
			for _, other := range []string{"\n", " \n", "0\n", "what\n", ""} {
				missing := slices.Clone(lines)
				missing[i] = other
				checkNoText(t, strings.Join(missing, ""))
			}
		}
		slices.Reverse(lines)
		checkNoText(t, strings.Join(lines, ""))
	}
}

// No line may begin with another word, or with that of another line.
func TestTextsWithOtherWords(t *testing.T) {
	words := []string{"replay", "inputs", "hashes", "tag", "Replay", "REPLAY", "replays", "repla", "eplay", "relpay", "input", "Inputs", "inputss", "hash", "Hashes", "hashs", "tags", "Tag", "TAG", "ta", "ag", "", "0", "1", "-", "\"tag\"", "tag:", "täg"}
	for _, text := range fewTexts() {
		for _, word := range []string{"replay", "inputs", "hashes", "tag"} {
			for _, other := range words {
				if other != word {
					checkNoText(t, strings.Replace(text, word, other, 1))
				}
			}
			checkNoTexts(t, replacedAt(text, word, ""))
			for i := range len(word) {
				checkNoText(t, strings.Replace(text, word, word[:i]+word[i+1:], 1))
				checkNoText(t, strings.Replace(text, word, word[:i]+strings.ToUpper(word[i:i+1])+word[i+1:], 1))
				checkNoText(t, strings.Replace(text, word, word[:i]+word[i:i+1]+word[i:], 1))
			}
		}
	}
}

// numberForms returns what is not taken instead of a number, also if it has the
// same value; $0 is the number.
func numberForms() []string {
	return []string{
		"0$0", "00$0", "000000000000000000000000000000$0", "+$0", "-$0", "--$0", "+-$0", "-0", "+0", "-00", "00", "", "-", "+", "+ $0", "- $0", "$0-", "$0+",
		"${0}.0", "${0}.", ".$0", "${0}e0", "${0}e1", "0x$0", "0b1", "0o7", "0X1", "${0}_", "_$0", "0_$0", "1_0", "${0},", "'$0'", "\"$0\"", "($0)", "a", "x1", "${0}x", "ff", "NaN", "Inf", "-1", "-7", "one",
		"\u0661", "\uff11", "\u00b9", "\u00bd", "\xff", "${0}\xff", "\x80$0", "\xc3\x28", "\x00$0", "${0}\x00", "${0}\u200b", "\ufeff$0", "$0 0", "0 $0",
	}
}

// longNumbers returns numbers that are too large for every number of a replay.
func longNumbers() []string {
	return []string{
		"1000003", "10000000", "2147483647", "2147483648", "4294967295", "4294967296", "4294967297", "4294967300", "9223372036854775807", "9223372036854775808", "-9223372036854775808", "-9223372036854775809",
		"18446744073709551615", "18446744073709551616", "18446744073709551617", "18446744073709551620", "36893488147419103233", "340282366920938463463374607431768211457",
		"1" + strings.Repeat("0", 100), strings.Repeat("9", 1000), strings.Repeat("1", 100000), "-" + strings.Repeat("9", 50), "0" + strings.Repeat("0", 500), "1" + strings.Repeat("0", 64) + "1",
	}
}

func TestTextsWithOtherNumbers(t *testing.T) {
	for _, text := range fewTexts() {
		for _, other := range slices.Concat(numberForms(), longNumbers()) {
			checkNoTexts(t, replacedAt(text, "[0-9]+", other))
		}
	}
}

// Each number is replaced by other ones, most of which are in range somewhere.
func TestTextsWithNumbersAtTheLimits(t *testing.T) {
	right, wrong := 0, 0
	for _, text := range fewTexts() {
		for _, other := range []string{"0", "1", "2", "4", "5", "8", "9", "10", "11", "12", "59", "60", "61", "98", "99", "100", "101", "255", "256", "1000001", "1000002", "1000003", "1000004"} {
			for _, changed := range replacedAt(text, "[0-9]+", other) {
				if checkAnyText(t, changed) {
					right++
				} else {
					wrong++
				}
			}
		}
	}
	if right < 200 || wrong < 200 {
		t.Errorf("%d texts are those of replays, and %d are not", right, wrong)
	}
}

func TestEveryBeginningAndEndOfTexts(t *testing.T) {
	for _, r := range replays() {
		text := textByDefinition(r)
		for i := range len(text) {
			checkNoText(t, text[:i])
			if i > 0 {
				checkNoText(t, text[i:])
			}
		}
	}
}

func TestTextsWithSomethingBehindTheEnd(t *testing.T) {
	for _, text := range fewTexts() {
		for _, more := range []string{"\n", " ", "\x00", "x", "7", "\ufeff", "tag 7\n", "replay", "\n\n\n\n", text, strings.Repeat("\n", 1000), strings.Repeat("x", 100000)} {
			checkNoText(t, text+more)
			checkNoText(t, more+text)
		}
	}
}

// Each byte is replaced by others, is missing, or comes twice.
func TestTextsWithOtherBytes(t *testing.T) {
	right := 0
	for _, text := range fewTexts() {
		for i := range len(text) {
			for _, other := range []string{"", text[i:i+1] + text[i:i+1], "0", "1", "5", "9", " ", "-", "+", "\n", "\t", "\r", "e", "E", ".", "_", "\x00", "\x80", "\xff", "\u00e9"} {
				if checkAnyText(t, text[:i]+other+text[i+1:]) {
					right++
				}
			}
		}
		for _, bad := range []string{"\x80", "\xff", "\xc3", "\xe2\x80", "\xf0\x9f", "\xed\xa0\x80", "\ufffd"} {
			checkNoTexts(t, inserted(text, bad))
		}
	}
	if right < 300 {
		t.Errorf("only %d of the texts are those of replays", right)
	}
}

// drawnText returns a text with some changes at places that are drawn.
func drawnText(draw *rand.Rand, text string) string {
	for range 1 + draw.Intn(3) {
		from := draw.Intn(len(text) + 1)
		to := min(from+draw.Intn(3), len(text))
		more := []string{"", "0", "1", "2", "4", "5", "9", " ", " 1", " 4 1", " 1 1", "\n", "-"}
		text = text[:from] + more[draw.Intn(len(more))] + text[to:]
	}
	return text
}

func TestDrawnTexts(t *testing.T) {
	draw := rand.New(rand.NewSource(44))
	right, wrong := 0, 0
	list := replays()
	for range 40000 {
		if checkAnyText(t, drawnText(draw, textByDefinition(list[draw.Intn(len(list))]))) {
			right++
		} else {
			wrong++
		}
	}
	if right < 1000 || wrong < 1000 {
		t.Errorf("%d texts are those of replays, and %d are not", right, wrong)
	}
}

func TestVeryLongTexts(t *testing.T) {
	many := 100000
	for _, more := range []string{" ", " 0", " 4 1", " 4 1 5 1", "\n", "0", "9", "-", "\xff"} {
		long := strings.Repeat(more, many)
		for _, text := range fewTexts() {
			for _, changed := range replacedAt(text, "\n", long+"$0") {
				checkNoText(t, changed)
			}
		}
		checkNoText(t, long)
	}
}
