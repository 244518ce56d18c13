package tests

import (
	"fmt"
	"math/rand"
	"strings"
	"testing"

	"loop.example/replayverifier/impl"
)

// wholeScripts returns scripts that are empty or end with a newline, some of
// which are as long as possible, or longer.
func wholeScripts() []string {
	list := append(fewScripts(), "", "\n", " \n", "x\n", strings.Repeat("\n", 590), strings.Repeat("\n", 594), strings.Repeat("\n", 599), strings.Repeat("\n", 600), strings.Repeat("\n", 601))
	draw := rand.New(rand.NewSource(94))
	for range 100 {
		list = append(list, scriptOf(drawnLines(draw)...))
	}
	return list
}

// cutAtLastLine returns the output of a script without its last line, and this
// line.
func cutAtLastLine(t *testing.T, text string) (string, string) {
	t.Helper()
	output := impl.Execute(text)
	if !strings.HasSuffix(output, "\n") {
		t.Errorf("Execute(%s) = %q", shownText(text), output)
		return "", output
	}
	end := strings.LastIndex(output[:len(output)-1], "\n") + 1
	return output[:end], output[end:]
}

// checkAppended checks what a line appended to a script prints, if the script
// does not become too long, and that the last line stays.
func checkAppended(t *testing.T, text, line string, wanted func(printed string) bool) {
	t.Helper()
	longer := text + line + "\n"
	if len(longer) > maxScript {
		checkExecuted(t, longer, "too long\n")
		return
	}
	before, last := cutAtLastLine(t, text)
	output := impl.Execute(longer)
	printed, starts := strings.CutPrefix(output, before)
	printed, ends := strings.CutSuffix(printed, last)
	if !starts || !ends || !wanted(printed) {
		t.Errorf("with the line %q, the output of %s, %q, becomes %q", line, shownText(text), before+last, output)
	}
}

func TestP178(t *testing.T) {
	checkExecuted(t, "", "levels 0 replays 0\n")
}

func TestP179(t *testing.T) {
	texts := wholeScripts()
	for _, text := range fewScripts() {
		for end := range len(text) {
			texts = append(texts, text[:end])
		}
	}
	for many := range 1300 {
		texts = append(texts, strings.Repeat("\n", many), strings.Repeat("x", many), strings.Repeat("top 1\n", many))
	}
	long := 0
	for _, text := range texts {
		output := impl.Execute(text)
		if !strings.HasSuffix(output, "\n") || (output == "too long\n") != (len(text) > 600) {
			t.Errorf("Execute(%s) = %q", shownText(text), output)
		}
		if len(text) > 600 {
			long++
		}
	}
	if long < 1000 || long > len(texts)-1000 {
		t.Errorf("%d of %d scripts are too long", long, len(texts))
	}
}

func TestP180(t *testing.T) {
	words := []string{"", " ", " level 1", "x", "what", "Level 1", "LEVEL 1", "levels 1", "leve 1", "level\t1", "key:", "Key 1 7", "submit1 2 7 0 7", "revoked 2", "revoke\r", "top\x00 1", "top1", "no", "ok", "\xff", "1", "-", "levels 0 replays 0"}
	for index, text := range wholeScripts() {
		for _, line := range words {
			checkAppended(t, text, line, func(printed string) bool { return printed == "what\n" })
		}
		if index < 20 {
			continue
		}
		// A line that is as long as it may be, and longer.
		for _, size := range []int{599, 600} {
			if rest := size - len(text); rest > 0 {
				checkAppended(t, text, strings.Repeat("x", rest), func(printed string) bool { return printed == "what\n" })
			}
		}
	}
}

func TestP181(t *testing.T) {
	shown := 0
	for _, text := range wholeScripts() {
		checkAppended(t, text, "top 1", func(printed string) bool {
			if strings.HasPrefix(printed, "board\n1 ") {
				shown++
			}
			return printed == "no\n" || strings.HasPrefix(printed, "board\n")
		})
	}
	if shown < 20 {
		t.Errorf("only %d boards have entries", shown)
	}
}

func TestP182(t *testing.T) {
	endings := []string{"", "x", " ", "level 3", "level 1", "key 4 9", "key 2 7", "submit 1 2 7 0 7", "submit 0 0 7 0 5", "revoke 2", "revoke 0", "top 1", "what", "\x00", "\r", "\xff", strings.Repeat("y", 300)}
	many := 0
	for _, text := range wholeScripts() {
		want := impl.Execute(text)
		for _, ending := range endings {
			if len(text+ending) > maxScript {
				checkExecuted(t, text+ending, "too long\n")
				continue
			}
			many++
			checkExecuted(t, text+ending, want)
		}
		for end := range len(text) {
			if end%19 == 0 && len(text) <= maxScript {
				checkExecuted(t, text[:end], impl.Execute(text[:strings.LastIndex(text[:end], "\n")+1]))
			}
		}
	}
	if many < 1000 {
		t.Errorf("only %d scripts have an ending", many)
	}
}

func TestP183(t *testing.T) {
	checkExecuted(t, "level 1\nkey 2 7\nsubmit 1 2 7 0 7\ntop 1\n", "ok\nok\nfine\nboard\n1 2 7\nlevels 1 replays 1\n")
}

func TestP184(t *testing.T) {
	checkExecuted(t, "level 1\nsubmit 1 2 7 0 7\nkey 2 7\nsubmit 1 2 7 0 8\nsubmit 1 2 6 0 7\nsubmit 1 2 8 0 7\nsubmit 2 2 7 0 7\n", "ok\nkey\nok\ntag\nopen\nopen\nlevel\nlevels 1 replays 0\n")
}

func TestP185(t *testing.T) {
	checkExecuted(t, "level 1\nkey 2 7\nsubmit 1 2 7 0 7\nsubmit 1 2 7 0 7\nrevoke 2\ntop 1\n", "ok\nok\nfine\nagain\n1\nboard\nlevels 1 replays 1\n")
}

func TestP186(t *testing.T) {
	checkExecuted(t, "level 1\nkey 2 7\nkey 3 8\nsubmit 1 3 7 0 8\nsubmit 1 2 7 0 7\ntop 1\n", "ok\nok\nok\nfine\nfine\nboard\n1 3 7\n2 2 7\nlevels 1 replays 2\n")
	// Whoever came first is ahead, whatever their numbers are.
	for one := range players {
		for other := range players {
			if one == other {
				continue
			}
			text := fmt.Sprintf("level 1\nkey %d 7\nkey %d 8\nsubmit 1 %d 7 0 7\nsubmit 1 %d 7 0 8\ntop 1\n", one, other, one, other)
			checkExecuted(t, text, fmt.Sprintf("ok\nok\nok\nfine\nfine\nboard\n1 %d 7\n2 %d 7\nlevels 1 replays 2\n", one, other))
		}
	}
}

func TestP187(t *testing.T) {
	checkExecuted(t, "level 100\nkey 10 7\nkey 1 0\nrevoke 10\ntop 1\nsubmit 1 1 7 0 0\n", "no\nno\nno\nno\nno\nno\nlevels 0 replays 0\n")
	for _, line := range []string{"level 100", "key 10 7", "key 1 0", "revoke 10", "top 1", "submit 1 1 7 0 0"} {
		checkExecuted(t, line+"\n", "no\nlevels 0 replays 0\n")
	}
}
