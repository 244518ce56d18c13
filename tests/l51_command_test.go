package tests

import (
	"fmt"
	"math/rand"
	"regexp"
	"runtime"
	"slices"
	"strconv"
	"strings"
	"sync"
	"testing"

	"loop.example/replayverifier/impl"
)

const maxScript = impl.MaxScript

// shortForm is how the numbers of a script are written.
var shortForm = regexp.MustCompile(`\A[0-9]{1,4}\z`)

// shortByDefinition returns the number that any word counts as.
func shortByDefinition(word string) int {
	if !shortForm.MatchString(word) {
		return -1
	}
	n, _ := strconv.Atoi(word)
	return n
}

// roadWith returns the road with a number.
func roadWith(number int) level { return withNumber(roadLevel(), number) }

// driveOf returns the inputs of a drive.
func driveOf(pushing, rolling int) []input {
	return slices.Concat(drives(min(max(pushing, 0), 60)), rolls(min(max(rolling, 0), 60)))
}

// okByDefinition returns the service after a command that worked or not, and what
// it prints.
func okByDefinition(s, after service, ok bool) (service, string) {
	if !ok {
		return s, "no\n"
	}
	return after, "ok\n"
}

// driveByDefinition returns any service after a drive that is submitted, and
// what the command prints.
func driveByDefinition(s service, number, player, pushing, rolling, key int) (service, string) {
	l, list := roadWith(number), driveOf(pushing, rolling)
	if !levelByDefinition(l) || legalByDefinition(l, list) != -1 || !isAmong(player, 0, 9) || !isAmong(key, 1, 9999) {
		return s, "no\n"
	}
	after, verdict := submittedByDefinition(s, textByDefinition(madeByDefinition(l, player, key, list)))
	names := []string{"fine", "text", "level", "key", "tag", "input", "range", "hash", "open", "score", "again", "worse", "below", "full"}
	return after, names[verdict] + "\n"
}

// shownByDefinition returns what is printed for a board.
func shownByDefinition(s service, number int) string {
	b, ok := topByDefinition(s, number)
	if !ok {
		return "no\n"
	}
	printed := "board\n"
	for index, e := range b {
		printed += fmt.Sprintf("%d %d %d\n", index+1, e.Player, e.Score)
	}
	return printed
}

// answerByDefinition returns any service after any line, and what this prints.
func answerByDefinition(s service, line string) (service, string) {
	words := append(strings.Split(line, " "), "", "", "", "", "")
	var n []int
	for _, word := range words[1:6] {
		n = append(n, shortByDefinition(word))
	}
	switch words[0] {
	case "level":
		after, ok := withLevelByDefinition(s, roadWith(n[0]))
		return okByDefinition(s, after, ok)
	case "key":
		after, ok := withKeyByDefinition(s, n[0], n[1])
		return okByDefinition(s, after, ok)
	case "submit":
		return driveByDefinition(s, n[0], n[1], n[2], n[3], n[4])
	case "revoke":
		after, many := revokedByDefinition(s, n[0])
		if many == -1 {
			return s, "no\n"
		}
		return after, fmt.Sprintf("%d\n", many)
	case "top":
		return s, shownByDefinition(s, n[0])
	}
	return s, "what\n"
}

// linesIn returns the lines of a script.
func linesIn(text string) []string {
	pieces := strings.Split(text, "\n")
	return pieces[:len(pieces)-1]
}

// answersByDefinition returns the service after some lines, and what each of
// them prints.
func answersByDefinition(lines []string) (service, []string) {
	s := service{Keys: noKeys()}
	var printed []string
	for _, line := range lines {
		after, answer := answerByDefinition(s, line)
		s, printed = after, append(printed, answer)
	}
	return s, printed
}

// lastByDefinition returns the last line of the output.
func lastByDefinition(s service) string {
	return fmt.Sprintf("levels %d replays %d\n", len(s.Tracks), len(s.Tags))
}

// executedByDefinition returns the output of any script.
func executedByDefinition(text string) string {
	if len(text) > 600 {
		return "too long\n"
	}
	s, printed := answersByDefinition(linesIn(text))
	return strings.Join(printed, "") + lastByDefinition(s)
}

// scriptOf returns the script with these lines.
func scriptOf(lines ...string) string {
	text := ""
	for _, line := range lines {
		text += line + "\n"
	}
	return text
}

func checkExecuted(t *testing.T, text, want string) {
	t.Helper()
	if got := impl.Execute(text); got != want {
		t.Errorf("Execute(%s) = %q, want %q", shownText(text), got, want)
	}
}

// checkScript checks the output of a script against that of the definition, and
// returns this.
func checkScript(t *testing.T, text string) string {
	t.Helper()
	want := executedByDefinition(text)
	checkExecuted(t, text, want)
	return want
}

// checkLines checks what lines print, which are given separated by a bar, with
// the last line of the output at the end.
func checkLines(t *testing.T, lines, want string) {
	t.Helper()
	text, output := scriptOf(strings.Split(lines, "|")...), scriptOf(strings.Split(want, "|")...)
	checkExecuted(t, text, output)
	if got := executedByDefinition(text); got != output {
		t.Errorf("by the definition, %s prints %q, not %q", shownText(text), got, output)
	}
}

// lineRow is lines and what they print, separated by bars.
type lineRow struct{ lines, want string }

func checkRows(t *testing.T, rows []lineRow) {
	t.Helper()
	for _, r := range rows {
		checkLines(t, r.lines, r.want)
	}
}

func TestConstantsOfChapter51(t *testing.T) {
	if maxScript != 600 {
		t.Errorf("MaxScript is %d", maxScript)
	}
}

func TestScripts(t *testing.T) {
	for _, r := range []struct{ text, want string }{
		{"", "levels 0 replays 0\n"}, {"level 1", "levels 0 replays 0\n"}, {"what", "levels 0 replays 0\n"}, {" ", "levels 0 replays 0\n"}, {"\x00", "levels 0 replays 0\n"},
		{"\n", "what\nlevels 0 replays 0\n"}, {"\n\n\n", "what\nwhat\nwhat\nlevels 0 replays 0\n"}, {"\n\n\n ", "what\nwhat\nwhat\nlevels 0 replays 0\n"},
		{"level 1\n", "ok\nlevels 1 replays 0\n"}, {"level 1\nlevel 2", "ok\nlevels 1 replays 0\n"}, {"level 1\nlevel 2\n", "ok\nok\nlevels 2 replays 0\n"}, {"level 1\n\nlevel 2\n", "ok\nwhat\nok\nlevels 2 replays 0\n"},
		{"level 1\ntop 1\x00", "ok\nlevels 1 replays 0\n"}, {"level 1\n ", "ok\nlevels 1 replays 0\n"}, {"\nlevel 1", "what\nlevels 0 replays 0\n"}, {"level 1\rlevel 2\n", "no\nlevels 0 replays 0\n"},
		{"level 1\nkey 2 7\nsubmit 1 2 7 0 7", "ok\nok\nlevels 1 replays 0\n"}, {"level 1\nkey 2 7\nsubmit 1 2 7 0 7\n", "ok\nok\nfine\nlevels 1 replays 1\n"},
		{"level 1\nkey 2 7\nsubmit 1 2 7 0 7\nrevoke 2", "ok\nok\nfine\nlevels 1 replays 1\n"}, {"level 1\nkey 2 7\nsubmit 1 2 7 0 7\nx", "ok\nok\nfine\nlevels 1 replays 1\n"},
	} {
		checkExecuted(t, r.text, r.want)
		checkScript(t, r.text)
	}
}

func TestLongScripts(t *testing.T) {
	checkExecuted(t, strings.Repeat("\n", 600), strings.Repeat("what\n", 600)+"levels 0 replays 0\n")
	checkExecuted(t, strings.Repeat("\n", 601), "too long\n")
	checkExecuted(t, strings.Repeat("x", 600), "levels 0 replays 0\n")
	checkExecuted(t, strings.Repeat("x", 599)+"\n", "what\nlevels 0 replays 0\n")
	checkExecuted(t, strings.Repeat("x", 600)+"\n", "too long\n")
	checkExecuted(t, strings.Repeat(" ", 599)+"\n", "what\nlevels 0 replays 0\n")
	checkExecuted(t, strings.Repeat(" ", 601), "too long\n")
	// All bytes count, also those behind the last newline.
	start := "level 1\nkey 2 7\nsubmit 1 2 7 0 7\n"
	for _, more := range []string{"\n", "x", " ", "\x00", "\xff", "level 2\n", "top 1\n", "ä", "\u2028"} {
		for _, room := range []int{len(more) - 1, len(more), len(more) + 1, 0} {
			filled := start + strings.Repeat("\n", 600-len(start)-room) + more
			if got := checkScript(t, filled); (got == "too long\n") != (room < len(more)) {
				t.Errorf("%d bytes with %q at the end print %q", len(filled), more, got)
			}
			checkScript(t, start+strings.Repeat("x", 600-len(start)-room)+more)
			checkScript(t, strings.Repeat("9", 600-len(start)-room)+more+"\n"+start)
		}
	}
	for _, many := range []int{601, 602, 1000, 1200, 65536 + 10, 1000000} {
		checkExecuted(t, strings.Repeat("\n", many), "too long\n")
		checkExecuted(t, strings.Repeat("x", many), "too long\n")
		checkExecuted(t, scriptOf("level 1")+strings.Repeat("x", many-8), "too long\n")
	}
}

// Each prefix of a script, with and without a newline behind it.
func TestBeginningsOfScripts(t *testing.T) {
	for _, text := range fewScripts() {
		for end := range len(text) + 1 {
			checkScript(t, text[:end])
			checkScript(t, text[:end]+"\n")
			checkScript(t, text[end:])
		}
	}
}

// fewScripts returns scripts with all commands and nearly all answers.
func fewScripts() []string {
	return []string{
		scriptOf("level 1", "key 2 7", "submit 1 2 7 0 7", "top 1"),
		scriptOf("level 0", "level 99", "key 0 1", "key 9 9999", "submit 0 0 2 18 1", "submit 99 9 7 0 9999", "submit 0 9 5 3 9999", "top 0", "top 99", "revoke 0", "revoke 9", "top 0", "revoke 9"),
		scriptOf("level 5", "level 5", "key 3 8", "key 3 9", "submit 5 3 6 1 8", "submit 5 3 7 0 8", "submit 5 3 6 1 8", "submit 5 4 7 0 8", "submit 5 3 7 0 9", "submit 5 3 1 0 8", "submit 6 3 7 0 8", "submit 5 3 21 0 8", "x", "", "top 6", "revoke 10"),
		scriptOf("level 0001", "key 02 0007", "submit 01 2 x 9 7 more", "submit 1 2 7 x 7", "submit 1 2 7", "submit 1 2 7 0 00007", " level 2", "level  2", "top 1 "),
	}
}

func TestLines(t *testing.T) {
	checkRows(t, []lineRow{
		{"", "what|levels 0 replays 0"}, {" ", "what|levels 0 replays 0"}, {"   ", "what|levels 0 replays 0"}, {" level 1", "what|levels 0 replays 0"}, {"  level 1", "what|levels 0 replays 0"},
		{"level 1 ", "ok|levels 1 replays 0"}, {"level 1  ", "ok|levels 1 replays 0"}, {"level 1 2", "ok|levels 1 replays 0"}, {"level 1 level 2", "ok|levels 1 replays 0"}, {"level 1 x y z 1 2 3 4 5 6 7 8 9", "ok|levels 1 replays 0"},
		{"level  1", "no|levels 0 replays 0"}, {"level   1", "no|levels 0 replays 0"}, {"level", "no|levels 0 replays 0"}, {"level ", "no|levels 0 replays 0"}, {"level  ", "no|levels 0 replays 0"}, {"level x 1", "no|levels 0 replays 0"},
		{"key 2 7 ", "ok|levels 0 replays 0"}, {"key 2 7 8", "ok|levels 0 replays 0"}, {"key 2", "no|levels 0 replays 0"}, {"key", "no|levels 0 replays 0"}, {"key 2 ", "no|levels 0 replays 0"}, {"key 2  7", "no|levels 0 replays 0"}, {"key  2 7", "no|levels 0 replays 0"}, {" key 2 7", "what|levels 0 replays 0"},
		{"level 1|key 2 7|submit 1 2 7 0 7 ", "ok|ok|fine|levels 1 replays 1"}, {"level 1|key 2 7|submit 1 2 7 0 7 9 9", "ok|ok|fine|levels 1 replays 1"}, {"level 1|key 2 7|submit 1 2 7  7", "ok|ok|fine|levels 1 replays 1"},
		{"level 1|key 2 7|submit  1 2 7 0 7", "ok|ok|no|levels 1 replays 0"}, {"level 1|key 2 7|submit 1  2 7 0 7", "ok|ok|no|levels 1 replays 0"}, {"level 1|key 2 7|submit 1 2  7 0 7", "ok|ok|no|levels 1 replays 0"}, {"level 1|key 2 7|submit 1 2 7 0  7", "ok|ok|no|levels 1 replays 0"},
		{"level 1|key 2 7|submit 1 2 7 0", "ok|ok|no|levels 1 replays 0"}, {"level 1|key 2 7|submit 1 2 7 0 ", "ok|ok|no|levels 1 replays 0"}, {"level 1|key 2 7|submit 1 2 7", "ok|ok|no|levels 1 replays 0"}, {"level 1|key 2 7|submit 1 2", "ok|ok|no|levels 1 replays 0"}, {"level 1|submit 1|submit", "ok|no|no|levels 1 replays 0"},
		{"revoke 2 3", "0|levels 0 replays 0"}, {"revoke 2 ", "0|levels 0 replays 0"}, {"revoke", "no|levels 0 replays 0"}, {"revoke ", "no|levels 0 replays 0"}, {"revoke  2", "no|levels 0 replays 0"},
		{"level 1|top 1 2", "ok|board|levels 1 replays 0"}, {"level 1|top 1 ", "ok|board|levels 1 replays 0"}, {"level 1|top", "ok|no|levels 1 replays 0"}, {"level 1|top ", "ok|no|levels 1 replays 0"}, {"level 1|top  1", "ok|no|levels 1 replays 0"}, {"level 0|top", "ok|no|levels 1 replays 0"},
	})
}

func TestFirstWords(t *testing.T) {
	for _, word := range []string{"level", "key", "submit", "revoke", "top"} {
		others := []string{
			strings.ToUpper(word), strings.ToUpper(word[:1]) + word[1:], word[:len(word)-1], word[1:], word + "s", word + word, word + ":", "x" + word, "-" + word, word + "1", word + "\t", "\t" + word, word + "\t1",
			word + "\r", word + "\x00", "\x00" + word, word + "\u00a0", "\ufeff" + word, word + "\xff", "\xff", word + "\v", word + "\u00e9", "(*session)." + word, "\"" + word + "\"", word + ",", word + "\r1",
		}
		for _, other := range others {
			for _, rest := range []string{"", " ", " 1", " 1 7", " 1 1 7 0 7", "\t1 7"} {
				checkLines(t, "level 1|key 1 7|"+other+rest, "ok|ok|what|levels 1 replays 0")
			}
		}
	}
	for _, word := range []string{"x", "what", "ok", "no", "board", "fine", "levels", "replays", "replay", "tag", "help", "quit", "submission", "0", "1", "-1", "#", "//", "Level", "service", "answer", "take", "road", "malformed", "\x01", "\u4e16", "\xe4\xb8", "%s", "%d", "\\n"} {
		checkLines(t, word, "what|levels 0 replays 0")
		checkLines(t, word+" 1 2 7 0 7", "what|levels 0 replays 0")
		checkLines(t, "level 1|"+word+" 1|top 1", "ok|what|board|levels 1 replays 0")
	}
}

func TestNumbersOfLines(t *testing.T) {
	for _, word := range []string{"8", "08", "008", "0008"} {
		checkLines(t, "level "+word+"|level 8|level 1|key "+word+" "+word+"|key 8 8", "ok|no|ok|ok|no|levels 2 replays 0")
		checkLines(t, "level 8|key 8 8|submit "+word+" "+word+" 7 0 "+word+"|top "+word+"|revoke "+word, "ok|ok|fine|board|1 8 7|1|levels 1 replays 1")
	}
	for _, word := range []string{"0", "00", "000", "0000"} {
		checkLines(t, "level "+word+"|level 0|key "+word+" "+word+"|key "+word+" 1|key 0 1", "ok|no|no|ok|no|levels 1 replays 0")
		checkLines(t, "level 0|key 0 1|submit "+word+" "+word+" 7 "+word+" 1|top "+word+"|revoke "+word, "ok|ok|fine|board|1 0 7|1|levels 1 replays 1")
	}
	for _, word := range noShortNumbers("8") {
		checkLines(t, "level "+word+"|level 8|key "+word+" 8|key 8 "+word, "no|ok|no|no|levels 1 replays 0")
		checkLines(t, "level 8|key 8 8|submit "+word+" 8 7 0 8|submit 8 "+word+" 7 0 8|submit 8 8 7 0 "+word, "ok|ok|no|no|no|levels 1 replays 0")
		checkLines(t, "level 8|key 8 8|submit 8 8 7 "+word+" 8", "ok|ok|fine|levels 1 replays 1")
		checkLines(t, "level 8|key 8 8|submit 8 8 "+word+" 7 8", "ok|ok|open|levels 1 replays 0")
		checkLines(t, "level 8|top "+word+"|revoke "+word, "ok|no|no|levels 1 replays 0")
	}
}

// noShortNumbers returns words that are no numbers, many of which look like one.
func noShortNumbers(digits string) []string {
	words := []string{
		"", "x", "00008", "000008", "0000000000000000000008", "00000", "10000", "99999", "65544", "4294967304", "18446744073709551624", "-1", "-0", "+0", "a", "O", "l", "1_0", "1e1", "NaN", "Inf", "0x8", "0b1", "0o7", "08.", "0,8",
		"\u0668", "\uff18", "\u2078", "\u2467", "\xb8", "\x00", "\xff", "8\t", "\t8", "8\r", "\r", "8\x00", "\x008", "8x", "x8", "8-", "-8", "+8", "8.0", ".8", "8.", "8e0", "8,", "(8)", "'8'", "8/", ":", "/", "8:", "\ufeff8", "8\u00a0",
		"-08", "-008", "+008", "+0008", "1+7", "0_08", "8_", "_8", "-", "+", ".", "level", "\u0030\u0308", "8\u0301", "8\v", "8\f", "two", "00-8", "0+08", "800000000000",
	}
	return slices.DeleteFunc(words, func(word string) bool { return word == digits })
}

// All words of up to three bytes that are near to numbers, and all bytes.
func TestAllShortWords(t *testing.T) {
	near := []byte("0189/:+-.ex_\t\x00")
	words := []string{""}
	for from := 0; len(words) < 3000; {
		longest := len(words)
		for _, word := range words[from:longest] {
			for _, b := range near {
				words = append(words, word+string(rune(b)))
			}
		}
		from = longest
	}
	for b := range 256 {
		if b != ' ' && b != '\n' {
			words = append(words, string([]byte{byte(b)}), string([]byte{'1', byte(b)}), string([]byte{byte(b), '1'}))
		}
	}
	seen := map[string]int{}
	for _, word := range words {
		want := "ok"
		if n := shortByDefinition(word); !isAmong(n, 0, 99) {
			want = "no"
		}
		checkExecuted(t, "level "+word+"\n", fmt.Sprintf("%s\nlevels %d replays 0\n", want, strings.Count(want, "ok")))
		seen[want]++
	}
	if seen["ok"] < 30 || seen["no"] < 2000 {
		t.Errorf("the answers come up so often: %v", seen)
	}
}

func TestAllNumbersOfLines(t *testing.T) {
	for n := range 10000 {
		level, key, player := "no", "no", "no"
		if n <= 99 {
			level = "ok"
		}
		if n >= 1 {
			key = "ok"
		}
		if n <= 9 {
			player = "0"
		}
		want := fmt.Sprintf("%s\n%s\n%s\nlevels %d replays 0\n", level, key, player, strings.Count(level, "ok"))
		for _, form := range []string{"level %d\nkey 1 %d\nrevoke %d\n", "level %04d\nkey 1 %04d\nrevoke %04d\n"} {
			checkExecuted(t, fmt.Sprintf(form, n, n, n), want)
		}
		checkExecuted(t, fmt.Sprintf("level %05d\nkey 1 %05d\nrevoke %05d\n", n, n, n), "no\nno\nno\nlevels 0 replays 0\n")
	}
}

func TestLevelLines(t *testing.T) {
	checkRows(t, []lineRow{
		{"level 0", "ok|levels 1 replays 0"}, {"level 1", "ok|levels 1 replays 0"}, {"level 99", "ok|levels 1 replays 0"}, {"level 100", "no|levels 0 replays 0"}, {"level 9999", "no|levels 0 replays 0"}, {"level -1", "no|levels 0 replays 0"},
		{"level 1|level 1", "ok|no|levels 1 replays 0"}, {"level 1|level 01|level 2|level 1|level 2", "ok|no|ok|no|no|levels 2 replays 0"},
		{"level 1|level 2|level 3|level 4|level 5|level 0|level 99|level 1|level 100", "ok|ok|ok|ok|no|no|no|no|no|levels 4 replays 0"},
		{"level 99|level 50|level 0|level 3|level 1|top 0|top 1|top 3|top 50|top 99", "ok|ok|ok|ok|no|board|no|board|board|board|levels 4 replays 0"},
		{"level 100|level x|level|level 1|top 1", "no|no|no|ok|board|levels 1 replays 0"},
	})
	for number := range maxLevel + 1 {
		want := fmt.Sprintf("board|1 3 7|levels %d replays 1", min(number+1, 2))
		if number == 0 {
			checkLines(t, "level 0|key 3 7|submit 0 3 7 0 7|top 0", "ok|ok|fine|"+want)
			continue
		}
		lines := fmt.Sprintf("level %d|level 0|level %d|key 3 7|submit %d 3 7 0 7|top 0|top %d", number, number, number, number)
		checkLines(t, lines, "ok|ok|no|ok|fine|board|"+want)
	}
}

func TestKeyLines(t *testing.T) {
	checkRows(t, []lineRow{
		{"key 0 1", "ok|levels 0 replays 0"}, {"key 9 9999", "ok|levels 0 replays 0"}, {"key 10 1", "no|levels 0 replays 0"}, {"key 9999 1", "no|levels 0 replays 0"}, {"key x 1", "no|levels 0 replays 0"}, {"key 0 0", "no|levels 0 replays 0"}, {"key 0 10000", "no|levels 0 replays 0"}, {"key 0 x", "no|levels 0 replays 0"},
		{"key 2 7|key 2 7|key 2 8|key 2 0|key 3 7", "ok|no|no|no|ok|levels 0 replays 0"}, {"key 2 7|revoke 2|key 2 8|key 2 7", "ok|0|ok|no|levels 0 replays 0"},
		// The key that counts is the first one, or the first one after that.
		{"level 1|key 2 7|key 2 8|submit 1 2 7 0 8|submit 1 2 7 0 7", "ok|ok|no|tag|fine|levels 1 replays 1"}, {"level 1|key 2 7|revoke 2|key 2 8|submit 1 2 7 0 7|submit 1 2 7 0 8", "ok|ok|0|ok|tag|fine|levels 1 replays 1"},
		{"level 1|key 2 1|submit 1 2 7 0 1|top 1", "ok|ok|fine|board|1 2 7|levels 1 replays 1"}, {"level 1|key 2 9999|submit 1 2 7 0 9999|top 1", "ok|ok|fine|board|1 2 7|levels 1 replays 1"},
	})
	for player := range players {
		lines := fmt.Sprintf("level 1|key %d 7|key %d 7|submit 1 %d 7 0 7|top 1|revoke %d|key %d 8|revoke %d", player, player, player, player, player, player)
		checkLines(t, lines, fmt.Sprintf("ok|ok|no|fine|board|1 %d 7|1|ok|0|levels 1 replays 1", player))
		for other := range players {
			if other != player {
				checkLines(t, fmt.Sprintf("level 1|key %d 7|submit 1 %d 7 0 7|key %d 9|submit 1 %d 7 0 7", player, other, other, other), "ok|ok|key|ok|tag|levels 1 replays 0")
			}
		}
	}
}

// fineDrives returns the drives that finish a road with their last input.
func fineDrives() [][2]int { return [][2]int{{2, 18}, {3, 8}, {4, 5}, {5, 3}, {6, 1}, {7, 0}} }

func TestDrives(t *testing.T) {
	var finishing [][2]int
	for pushing := range 23 {
		for rolling := range 23 {
			lines := fmt.Sprintf("level 1|key 2 7|submit 1 2 %d %d 7|top 1", pushing, rolling)
			got := checkScript(t, scriptOf(strings.Split(lines, "|")...))
			answer := strings.Split(got, "\n")[2]
			if answer == "fine" {
				finishing = append(finishing, [2]int{pushing, rolling})
				checkLines(t, lines, fmt.Sprintf("ok|ok|fine|board|1 2 %d|levels 1 replays 1", pushing+rolling))
			} else if many := pushing + rolling; (answer == "no") != (many > 20) || (answer == "open") != (many <= 20) {
				t.Errorf("a drive of %d and %d prints %q", pushing, rolling, got)
			}
		}
	}
	if !slices.Equal(finishing, fineDrives()) {
		t.Errorf("the drives %v finish with their last input", finishing)
	}
	for _, many := range []string{"20", "21", "59", "60", "61", "99", "100", "255", "256", "257", "0061", "1000", "9999", "10000", "99999", "-1", "-7", "x", "", "7x"} {
		for _, other := range []string{"0", "1", "7", "20", "60", "61", "9999", "x", ""} {
			checkScript(t, scriptOf("level 1", "key 2 7", "submit 1 2 "+many+" "+other+" 7", "submit 1 2 "+other+" "+many+" 7", "top 1"))
		}
	}
	checkRows(t, []lineRow{
		{"level 1|key 2 7|submit 1 2 0 0 7|submit 1 2 x x 7|submit 1 2   7|submit 1 2 0 20 7|submit 1 2 20 0 7", "ok|ok|open|open|open|open|open|levels 1 replays 0"},
		{"level 1|key 2 7|submit 1 2 59 0 7|submit 1 2 60 0 7|submit 1 2 61 0 7|submit 1 2 9999 0 7|submit 1 2 0 59 7|submit 1 2 0 60 7|submit 1 2 0 61 7|submit 1 2 0 9999 7|submit 1 2 9999 9999 7", "ok|ok|no|no|no|no|no|no|no|no|no|levels 1 replays 0"},
		{"level 1|key 2 7|submit 1 2 60 x 7|submit 1 2 x 60 7|submit 1 2 20 x 7|submit 1 2 x 20 7|submit 1 2 7 x 7", "ok|ok|no|no|open|open|fine|levels 1 replays 1"},
	})
}

func TestSubmitLines(t *testing.T) {
	checkRows(t, []lineRow{
		// What cannot be made is refused ahead of everything else.
		{"submit 1 2 7 0 7|submit 100 2 7 0 7|submit 1 10 7 0 7|submit 1 2 7 0 0|submit 1 2 21 0 7|submit x x x x x|submit", "level|no|no|no|no|no|no|levels 0 replays 0"},
		{"level 1|key 2 7|submit 100 2 7 0 7|submit 1 10 7 0 7|submit 1 2 7 0 0|submit 1 2 7 0 10000|submit 1 2 21 0 7|submit 1 2 7 14 7|submit 1 2 x 21 7", "ok|ok|no|no|no|no|no|no|no|levels 1 replays 0"},
		{"level 1|submit 1 2 7 0 0|submit 2 2 7 14 7|submit 2 10 7 0 7", "ok|no|no|no|levels 1 replays 0"},
		// The level, the key, the tag and the run are looked at in this order.
		{"submit 1 2 6 0 7|level 1|submit 1 2 6 0 7|key 2 8|submit 1 2 6 0 7|submit 1 2 6 0 8|submit 1 2 7 0 8", "level|ok|key|ok|tag|open|fine|levels 1 replays 1"},
		{"level 2|key 2 7|submit 1 2 7 0 7|submit 2 2 7 0 7|submit 3 2 7 0 7", "ok|ok|level|fine|level|levels 1 replays 1"}, {"level 0|submit 99 0 7 0 1|submit 0 0 7 0 1|submit 0 9 7 0 1", "ok|level|key|key|levels 1 replays 0"},
		{"level 1|key 2 7|submit 1 2 7 1 7|submit 1 2 8 0 7|submit 1 2 6 0 7|submit 1 2 0 7 7|submit 1 2 6 1 7", "ok|ok|open|open|open|open|fine|levels 1 replays 1"},
		// Another tag, and an entry that is as good, or better.
		{"level 1|key 2 7|submit 1 2 7 0 7|submit 1 2 7 0 7|submit 1 2 6 1 7|submit 1 2 5 3 7|submit 1 2 2 18 7|top 1", "ok|ok|fine|again|worse|worse|worse|board|1 2 7|levels 1 replays 1"},
		{"level 1|key 2 7|submit 1 2 2 18 7|submit 1 2 3 8 7|submit 1 2 4 5 7|submit 1 2 5 3 7|submit 1 2 6 1 7|submit 1 2 7 0 7|submit 1 2 2 18 7|top 1", "ok|ok|fine|fine|fine|fine|fine|worse|again|board|1 2 7|levels 1 replays 5"},
		{"level 1|key 2 7|submit 1 2 6 1 7|submit 1 2 7 0 7|submit 1 2 007 0000 07|submit 1 2 6 1 7", "ok|ok|fine|worse|worse|again|levels 1 replays 1"},
		// The same drive on another road, of another player or with another key.
		{"level 1|level 2|key 2 7|key 3 7|submit 1 2 7 0 7|submit 2 2 7 0 7|submit 1 3 7 0 7|submit 2 3 7 0 7|submit 2 3 7 0 7", "ok|ok|ok|ok|fine|fine|fine|fine|again|levels 2 replays 4"},
	})
}

func TestSubmitLinesForAFullBoard(t *testing.T) {
	start := "level 1|level 2|key 0 1|key 1 2|key 2 3|key 3 4|key 4 5|submit 1 0 5 3 1|submit 1 1 6 1 2|submit 1 2 3 8 3|submit 1 3 4 5 4"
	printed := "ok|ok|ok|ok|ok|ok|ok|fine|fine|fine|fine"
	checkRows(t, []lineRow{
		{start + "|top 1|top 2", printed + "|board|1 1 7|2 0 8|3 3 9|4 2 11|board|levels 2 replays 4"},
		// A new player has to be better than the last one.
		{start + "|submit 1 4 2 18 5|submit 1 4 3 8 5|submit 1 4 4 5 5|top 1", printed + "|below|below|fine|board|1 1 7|2 0 8|3 3 9|4 4 9|levels 2 replays 5"},
		{start + "|submit 1 4 5 3 5|top 1|submit 1 2 3 8 3|submit 1 2 2 18 3|submit 1 2 4 5 3|submit 1 2 5 3 3|top 1", printed + "|fine|board|1 1 7|2 0 8|3 4 8|4 3 9|again|below|below|fine|board|1 1 7|2 0 8|3 4 8|4 2 8|levels 2 replays 6"},
		// A player on the board is not below, but worse.
		{start + "|submit 1 2 2 18 3|submit 1 3 3 8 4|submit 1 0 4 5 1|submit 1 2 7 0 3|top 1", printed + "|worse|worse|worse|fine|board|1 1 7|2 2 7|3 0 8|4 3 9|levels 2 replays 5"},
		// There is a place again.
		{start + "|submit 1 4 2 18 5|revoke 1|submit 1 4 2 18 5|top 1|key 1 2|submit 1 1 6 1 2|submit 1 1 7 0 2|top 1", printed + "|below|1|fine|board|1 0 8|2 3 9|3 2 11|4 4 20|ok|again|fine|board|1 1 7|2 0 8|3 3 9|4 2 11|levels 2 replays 6"},
	})
}

func TestSubmitLinesForAFullService(t *testing.T) {
	// The numbers are as short as possible, so that the script is, too.
	lines, printed := []string{"level 0", "level 1", "level 2", "level 3"}, []string{"ok", "ok", "ok", "ok"}
	for player := range 4 {
		lines, printed = append(lines, fmt.Sprintf("key %d 1", player)), append(printed, "ok")
	}
	for many := range maxTexts {
		lines, printed = append(lines, fmt.Sprintf("submit %d %d 5 3 1", many%4, many/4)), append(printed, "fine")
	}
	start, answers := strings.Join(lines, "|")+"|", strings.Join(printed, "|")+"|"
	checkRows(t, []lineRow{
		{start + "top 0|top 3", answers + "board|1 0 8|2 1 8|3 2 8|board|1 0 8|2 1 8|3 2 8|levels 4 replays 12"},
		{start + "submit 0 3 7 0 1|submit 0 0 7 0 1|submit 0 0 5 3 1|submit 0 0 4 5 1|submit 0 3 6 0 1|submit 0 3 7 0 2|submit 0 4 7 0 1|submit 4 3 7 0 1", answers + "full|full|again|worse|open|tag|key|level|levels 4 replays 12"},
		// Tags stay when players are revoked.
		{start + "revoke 0|revoke 1|revoke 0|submit 0 3 7 0 1|key 0 1|submit 0 0 5 3 1|submit 0 0 7 0 1|top 0|top 1", answers + "4|4|0|full|ok|again|full|board|1 2 8|board|1 2 8|levels 4 replays 12"},
	})
	// With a full board, the verdict is that a replay is below.
	lines, printed = []string{"level 0", "key 4 1"}, []string{"ok", "ok"}
	for player := range 4 {
		lines, printed = append(lines, fmt.Sprintf("key %d 1", player)), append(printed, "ok")
		for _, drive := range []string{"4 5", "5 3", "6 1"} {
			lines, printed = append(lines, fmt.Sprintf("submit 0 %d %s 1", player, drive)), append(printed, "fine")
		}
	}
	start, answers = strings.Join(lines, "|")+"|", strings.Join(printed, "|")+"|"
	checkLines(t, start+"submit 0 4 5 3 1|submit 0 4 7 0 1|submit 0 3 7 0 1|revoke 0|submit 0 4 7 0 1|submit 0 4 2 18 1|top 0", answers+"below|below|worse|1|full|full|board|1 1 7|2 2 7|3 3 7|levels 1 replays 12")
}

func TestRevokeLines(t *testing.T) {
	checkRows(t, []lineRow{
		{"revoke 0|revoke 9|revoke 10|revoke x|revoke 9999|revoke", "0|0|no|no|no|no|levels 0 replays 0"},
		{"level 1|level 2|level 3|level 4|key 2 7|submit 1 2 7 0 7|submit 3 2 7 0 7|submit 4 2 7 0 7|revoke 2|revoke 2|top 1|top 3|top 4", "ok|ok|ok|ok|ok|fine|fine|fine|3|0|board|board|board|levels 4 replays 3"},
		{"level 1|key 2 7|submit 1 2 7 0 7|revoke 2|submit 1 2 7 0 7|key 2 7|submit 1 2 7 0 7|submit 1 2 6 1 7|top 1|revoke 2", "ok|ok|fine|1|key|ok|again|fine|board|1 2 7|1|levels 1 replays 2"},
		{"level 1|key 2 7|submit 1 2 7 0 7|revoke 2|key 2 8|submit 1 2 7 0 7|submit 1 2 7 0 8|top 1", "ok|ok|fine|1|ok|tag|fine|board|1 2 7|levels 1 replays 2"},
		{"level 1|key 2 7|key 3 8|submit 1 2 7 0 7|submit 1 3 5 3 8|revoke 2|top 1|revoke 10|revoke 4|top 1", "ok|ok|ok|fine|fine|1|board|1 3 8|no|0|board|1 3 8|levels 1 replays 2"},
		// A key without entries is removed as well.
		{"level 1|key 2 7|revoke 2|submit 1 2 7 0 7", "ok|ok|0|key|levels 1 replays 0"},
	})
}

func TestTopLines(t *testing.T) {
	checkRows(t, []lineRow{
		{"top 1|top 0|top 100|top x|top|top 9999", "no|no|no|no|no|no|levels 0 replays 0"}, {"level 0|top 0|top 1|top 00|top", "ok|board|no|board|no|levels 1 replays 0"},
		{"level 1|key 9 7|key 0 8|key 4 9|submit 1 9 4 5 7|submit 1 0 7 0 8|submit 1 4 4 5 9|top 1", "ok|ok|ok|ok|fine|fine|fine|board|1 0 7|2 9 9|3 4 9|levels 1 replays 3"},
		{"level 7|level 9|key 1 1|submit 9 1 7 0 1|top 7|top 9|top 8|top 7", "ok|ok|ok|fine|board|board|1 1 7|no|board|levels 2 replays 1"},
		// Players with equal scores stay in the order in which they came.
		{"level 1|key 8 1|key 5 1|key 6 1|key 1 1|submit 1 8 7 0 1|submit 1 5 6 1 1|submit 1 1 7 0 1|submit 1 6 6 1 1|top 1", "ok|ok|ok|ok|ok|fine|fine|fine|fine|board|1 8 7|2 5 7|3 1 7|4 6 7|levels 1 replays 4"},
	})
}

// keyWithTag returns a key of a player that gives a tag to a drive on a road, or
// 0 if there is none.
func keyWithTag(number, player int, list []input, tag int) int {
	first := madeByDefinition(roadWith(number), player, 1, list).Tag
	second := madeByDefinition(roadWith(number), player, 2, list).Tag
	// With each further key, the tag grows by the same number, modulo Hashes.
	for key, got := 1, first; key <= maxKey; key++ {
		if got == tag {
			return key
		}
		got = (got + second - first + hashes) % hashes
	}
	return 0
}

// Two different replays may have the same tag; the second one counts as accepted
// before.
func TestSubmitLinesWithTheSameTag(t *testing.T) {
	tag := madeByDefinition(roadWith(1), 2, 5000, drives(7)).Tag
	found := 0
	for number := range maxLevel + 1 {
		for _, drive := range fineDrives() {
			key := keyWithTag(number, 3, driveOf(drive[0], drive[1]), tag)
			if key == 0 || number == 1 {
				continue
			}
			found++
			start := fmt.Sprintf("level 1|level %d|key 2 5000|key 3 %d|", number, key)
			one, other := "submit 1 2 7 0 5000", fmt.Sprintf("submit %d 3 %d %d %d", number, drive[0], drive[1], key)
			boards := fmt.Sprintf("|top 1|top %d", number)
			checkLines(t, start+one+"|"+other+boards, "ok|ok|ok|ok|fine|again|board|1 2 7|board|levels 2 replays 1")
			checkLines(t, start+other+"|"+one+boards, fmt.Sprintf("ok|ok|ok|ok|fine|again|board|board|1 3 %d|levels 2 replays 1", drive[0]+drive[1]))
		}
	}
	if found == 0 {
		t.Errorf("no other replay has the tag %d", tag)
	}
}

// drawnLine returns a line, most of which are commands that work sometimes. Most
// of them are about so many levels and players.
func drawnLine(draw *rand.Rand, levels, drivers int) string {
	number, player := draw.Intn(levels), draw.Intn(drivers)
	key := 5 + player
	drive := fineDrives()[draw.Intn(6)]
	switch draw.Intn(40) {
	case 0, 1:
		number = []int{99, 100, 9999, 98, 5}[draw.Intn(5)]
	case 2, 3:
		player = []int{9, 10, 9999, 8, 6}[draw.Intn(5)]
	case 4, 5:
		key = []int{0, 1, 9999, 10000, 7}[draw.Intn(5)]
	case 6, 7:
		drive = [2]int{draw.Intn(22), draw.Intn(22)}
	}
	line := ""
	switch draw.Intn(16) {
	case 0:
		line = fmt.Sprintf("level %d", number)
	case 1, 2:
		line = fmt.Sprintf("key %d %d", player, key)
	case 3:
		line = fmt.Sprintf("revoke %d", player)
	case 4:
		line = fmt.Sprintf("top %d", number)
	default:
		line = fmt.Sprintf("submit %d %d %d %d %d", number, player, drive[0], drive[1], key)
	}
	if draw.Intn(25) == 0 {
		from := draw.Intn(len(line) + 1)
		to := min(from+draw.Intn(3), len(line))
		more := []string{"", " ", "  ", "0", "000", "x", "-", "+", "\t", "\r", "\x00", "9", "1 ", " 1"}
		line = line[:from] + more[draw.Intn(len(more))] + line[to:]
	}
	return line
}

// drawnLines returns lines for one script, which often begin with all that
// replays need.
func drawnLines(draw *rand.Rand) []string {
	var lines []string
	levels, drivers := 1+draw.Intn(5), 1+draw.Intn(6)
	if draw.Intn(4) > 0 {
		for number := range levels {
			lines = append(lines, fmt.Sprintf("level %d", number))
		}
		for player := range drivers {
			lines = append(lines, fmt.Sprintf("key %d %d", player, 5+player))
		}
	}
	for range draw.Intn(40) {
		line := drawnLine(draw, levels, drivers)
		if len(lines) > 0 && draw.Intn(12) == 0 {
			line = lines[draw.Intn(len(lines))]
		}
		lines = append(lines, line)
	}
	return lines
}

// eachLines calls check with the lines of scripts that are not too long.
func eachLines(many int, check func(lines []string)) {
	draw := rand.New(rand.NewSource(91))
	for range many {
		if lines := drawnLines(draw); len(scriptOf(lines...)) <= maxScript {
			check(lines)
		}
	}
}

func TestExecutedByDefinition(t *testing.T) {
	seen := map[string]int{}
	draw := rand.New(rand.NewSource(92))
	for range 2500 {
		lines := drawnLines(draw)
		text := scriptOf(lines...)
		if draw.Intn(4) == 0 {
			text = text[:draw.Intn(len(text)+1)]
		}
		if checkScript(t, text) == "too long\n" {
			seen["too long"]++
			continue
		}
		_, printed := answersByDefinition(linesIn(text))
		for _, answer := range printed {
			seen[strings.Split(answer, "\n")[0]]++
		}
	}
	for _, answer := range []string{"ok", "no", "what", "board", "fine", "level", "key", "tag", "open", "again", "worse", "below", "full", "too long", "0", "1", "2", "3"} {
		if seen[answer] < 20 {
			t.Errorf("the answers come up so often: %v", seen)
			break
		}
	}
}

// Each byte at each place of a script, in addition and instead of another one.
func TestScriptsWithOtherBytes(t *testing.T) {
	for index, text := range fewScripts() {
		for b := range 256 {
			// All bytes for one script, those that matter for the others.
			if index > 0 && !slices.Contains([]byte("\x00\n 09"), byte(b)) {
				continue
			}
			for place := range len(text) {
				checkScript(t, text[:place]+string([]byte{byte(b)})+text[place:])
				checkScript(t, text[:place]+string([]byte{byte(b)})+text[place+1:])
			}
		}
	}
}

// Each two bytes of a script that are near to each other change places, and each
// one is left out.
func TestScriptsWithMovedBytes(t *testing.T) {
	for _, text := range fewScripts() {
		for one := range len(text) {
			checkScript(t, text[:one]+text[one+1:])
			for other := one + 1; other < min(len(text), one+8); other++ {
				moved := []byte(text)
				moved[one], moved[other] = moved[other], moved[one]
				checkScript(t, string(moved))
			}
		}
	}
}

// probes returns lines that show all there is to see of a session with roads and
// players up to 5, without a change.
func probes() []string {
	lines := []string{"top 99"}
	for number := range 6 {
		lines = append(lines, fmt.Sprintf("top %d", number))
	}
	return lines
}

// refusedLines returns lines that print "no" at a point of a session.
func refusedLines(s service) []string {
	lines := []string{
		"level 100", "level x", "level", "key 10 5", "key 0 0", "key x 5", "key 0 x", "submit 100 0 7 0 5", "submit 0 10 7 0 5", "submit 0 0 7 0 0", "submit 0 0 21 0 5", "submit 1 1 7 14 6",
		"submit x 0 7 0 5", "submit 0 x 7 0 5", "submit 0 0 7 0 x", "submit", "revoke 10", "revoke x", "revoke", "top 98", "top x", "top",
	}
	for number := range 6 {
		lines = append(lines, fmt.Sprintf("level %d", number), fmt.Sprintf("key %d %d", number, 5+number), fmt.Sprintf("key %d 1234", number), fmt.Sprintf("top %d", number))
	}
	return slices.DeleteFunc(lines, func(line string) bool {
		_, printed := answerByDefinition(s, line)
		return printed != "no\n"
	})
}

// Lines that print "no" change nothing, wherever they are.
func TestRefusedLinesChangeNothing(t *testing.T) {
	many := 0
	draw := rand.New(rand.NewSource(93))
	eachLines(200, func(lines []string) {
		place := draw.Intn(len(lines) + 1)
		s, before := answersByDefinition(lines[:place])
		_, printed := answersByDefinition(slices.Concat(lines, probes()))
		last := executedByDefinition(scriptOf(lines...))
		last = last[strings.LastIndex(last[:len(last)-1], "levels"):]
		for _, refused := range refusedLines(s) {
			text := scriptOf(slices.Concat(lines[:place], []string{refused}, lines[place:], probes())...)
			if len(text) > maxScript {
				continue
			}
			many++
			checkExecuted(t, text, strings.Join(before, "")+"no\n"+strings.Join(printed[place:], "")+last)
		}
	})
	if many < 2000 {
		t.Errorf("only %d lines are refused", many)
	}
}

// Whatever a command has refused, it leaves a script to go on.
func TestLinesAfterAMalformedOne(t *testing.T) {
	for _, bad := range []string{"", " ", "x", "LEVEL 1", "level\t1", "what", "\x00", "top1", "submit\r"} {
		checkLines(t, bad+"|level 1|"+bad+"|"+bad+"|key 2 7|"+bad+"|submit 1 2 7 0 7|"+bad+"|top 1|"+bad+"|revoke 2|"+bad, "what|ok|what|what|ok|what|fine|what|board|1 2 7|what|1|what|levels 1 replays 1")
	}
}

func TestExecuteKeepsNoState(t *testing.T) {
	for range 3 {
		for _, text := range append(fewScripts(), "", "\n", "x\n", "level 1\n", strings.Repeat("\n", 601)) {
			want := executedByDefinition(text)
			checkExecuted(t, text, want)
			checkExecuted(t, text, want)
			checkExecuted(t, "top 1\ntop 5\nrevoke 2\nsubmit 1 2 7 0 7\n", "no\nno\n0\nlevel\nlevels 0 replays 0\n")
			checkExecuted(t, "level 1\nkey 2 7\nkey 3 8\nsubmit 1 2 7 0 7\n", "ok\nok\nok\nfine\nlevels 1 replays 1\n")
		}
	}
}

func TestExecuteAtTheSameTime(t *testing.T) {
	before := runtime.NumGoroutine()
	var texts []string
	eachLines(200, func(lines []string) { texts = append(texts, scriptOf(lines...)) })
	var all sync.WaitGroup
	for range 8 {
		all.Go(func() {
			for _, text := range texts {
				checkScript(t, text)
			}
		})
	}
	all.Wait()
	checkNoneRunning(t, before)
}
