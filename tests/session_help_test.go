package tests

import (
	"slices"
	"strconv"
	"strings"
	"testing"

	"loop.example/wapentake/impl"
)

// sessionMax is the limit as the document gives it.
const sessionMax = 50

// sessionOf is Session, held against the rule that arguments stay as they are.
func sessionOf(t *testing.T, bad int, lines []string) string {
	t.Helper()
	out := ""
	untouched(t, roomy(lines, "agree"), func(lines []string) { out = impl.Session(bad, lines) })
	return out
}

// session is Session, held against the model as well. It returns the answers.
func session(t *testing.T, bad int, lines ...string) []string {
	t.Helper()
	out := sessionOf(t, bad, lines)
	if want := modelSession(bad, lines); out != want {
		t.Fatalf("Bad is %d, the lines are\n%q\nthe output is\n%q\nwant\n%q", bad, lines, out, want)
	}
	return answersIn(t, out)
}

func answersIn(t *testing.T, out string) []string {
	t.Helper()
	if out == "" {
		return nil
	}
	if !strings.HasSuffix(out, "\n") {
		t.Fatalf("the output ends without a newline: %q", out)
	}
	return strings.Split(strings.TrimSuffix(out, "\n"), "\n")
}

// checkP43 gives Session each prefix of the lines.
func checkP43(t *testing.T, bad int, lines []string) {
	t.Helper()
	all := sessionOf(t, bad, lines)
	for n := range len(lines) + 1 {
		out := sessionOf(t, bad, lines[:n])
		if !strings.HasPrefix(all, out) {
			t.Fatalf("Bad is %d, the output of\n%q\nis\n%q\nand of the first %d lines\n%q", bad, lines, all, n, out)
		}
		if many := strings.Count(out, "\n"); many != min(n, sessionMax) {
			t.Fatalf("Bad is %d, %d lines of output for\n%q", bad, many, lines[:n])
		}
	}
}

// mustAnswer has the line come after the others, and looks at its answer. A line that is refused changes nothing that later lines tell.
func mustAnswer(t *testing.T, bad int, before []string, line, want string) {
	t.Helper()
	list := session(t, bad, slices.Concat(before, []string{line}, lookLines())...)
	if got := list[len(before)]; got != want {
		t.Fatalf("Bad is %d: %q after %q is %q, want %q", bad, line, before, got, want)
	}
	if want != "no" && want != "what" {
		return
	}
	without := answersIn(t, sessionOf(t, bad, slices.Concat(before, lookLines())))
	if !slices.Equal(list[len(before)+1:], without[len(before):]) {
		t.Fatalf("Bad is %d: %q after %q is %q and changes %q to %q", bad, line, before, want, without, list)
	}
}

// lookLines is lines that only look.
func lookLines() []string {
	list := []string{"said", "agree"}
	for k := range keepers {
		for _, name := range []string{"done", "view", "game"} {
			list = append(list, name+" "+strconv.Itoa(k))
		}
	}
	return list
}

// mustSay has the answers to all lines at once.
func mustSay(t *testing.T, bad int, pairs ...[2]string) {
	t.Helper()
	var lines, want []string
	for _, p := range pairs {
		lines = append(lines, p[0])
		want = append(want, p[1])
	}
	if got := session(t, bad, lines...); !slices.Equal(got, want) {
		for i := range lines {
			if got[i] != want[i] {
				t.Errorf("Bad is %d, line %d: %q is %q, want %q", bad, i+1, lines[i], got[i], want[i])
			}
		}
	}
	checkP43(t, bad, lines)
}

// busyLines is a session with eleven messages at its end, in which Bad is 3 and replica 0 leads.
func busyLines() []string {
	list := []string{"ask 1 1 join 0 0", "hear 0 0", "hear 1 1", "hear 1 2", "hear 2 0", "hear 3 0", "hear 3 1"}
	for _, text := range []string{"2 1 join 0 0", "3 1 join 0 0", "4 1 join 0 0", "1 2 take 0 0", "2 2 take 0 0"} {
		list = append(list, "ask "+text)
	}
	return list
}

// goodLines is one line for each command, all of which may come after busyLines.
func goodLines() []string {
	return []string{
		"ask 4 3 give 1 9", "hear 1 1", "turn 2", "offer 3 5 1 1 join 0 0", "yes 0 1 1 1 join 0 0", "sure 6 2 none",
		"calm 1", "agree", "said", "done 0", "view 3", "game 2",
	}
}
