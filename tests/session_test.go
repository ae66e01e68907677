package tests

import (
	"math"
	"slices"
	"strconv"
	"strings"
	"testing"

	"loop.example/wapentake/impl"
)

func TestLimitsOfSession(t *testing.T) {
	if impl.SessionMax != sessionMax {
		t.Errorf("SessionMax is %d", impl.SessionMax)
	}
}

func TestP43Example(t *testing.T) {
	mustSay(t, 3, [][2]string{
		{"agree", "ok"}, {"said", "0"}, {"done 0", ""}, {"view 0", "0 ok"}, {"view 4", "what"},
		{"hear 99 0", "no"}, {"hear 0 3", "no"},
		{"ask 0 1 join 0 0", "what"}, {"ask 1 1 join 0 0", "ok"}, {"ask 1 1 join 0 0", "no"}, {"said", "1"},
		{"hear 0 1", "ok"}, {"said", "1"}, {"hear 0 0", "ok"}, {"said", "2"},
		{"hear 1 1", "ok"}, {"hear 1 2", "ok"}, {"said", "4"}, {"done 1", ""},
		{"hear 2 0", "ok"}, {"hear 3 0", "ok"}, {"hear 3 1", "ok"}, {"hear 2 2", "ok"}, {"said", "7"},
		{"hear 4 1", "ok"}, {"hear 6 1", "ok"}, {"done 1", "1 1 join 0 0"}, {"done 0", ""}, {"agree", "ok"},
		{"sure 0 2 none", "ok"}, {"said", "8"}, {"turn 1", "ok"}, {"view 1", "1 no"}, {"said", "9"}, {"what", "what"},
	}...)
}

func TestP43NoReplica(t *testing.T) {
	for _, bad := range []int{-1, -2, -4, keepers, keepers + 1, 99, 1 << 32, -1 << 32, math.MinInt, math.MaxInt} {
		for _, lines := range [][]string{nil, {}, {""}, {"agree"}, {"said", "ask 1 1 join 0 0"}, make([]string, sessionMax+1)} {
			if out := sessionOf(t, bad, lines); out != "wrong\n" {
				t.Errorf("Bad is %d, the output of %q is %q", bad, lines, out)
			}
		}
	}
}

func TestP43NoLines(t *testing.T) {
	for bad := range keepers {
		for _, lines := range [][]string{nil, {}} {
			if out := sessionOf(t, bad, lines); out != "" {
				t.Errorf("Bad is %d, the output of no lines is %q", bad, out)
			}
		}
	}
}

// TestP43SessionMax has sessions up to the limit, with one line more, and with many more.
func TestP43SessionMax(t *testing.T) {
	for _, n := range []int{1, 2, sessionMax - 1, sessionMax, sessionMax + 1, sessionMax + 2, 2 * sessionMax, 1000} {
		for bad := range keepers {
			for _, line := range []string{"said", "what", "", "agree", "turn 1", "view 2"} {
				lines := slices.Repeat([]string{line}, n)
				if list := session(t, bad, lines...); len(list) != min(n, sessionMax) {
					t.Fatalf("%d answers to %d lines", len(list), n)
				}
			}
		}
	}
	lines := slices.Repeat([]string{"said"}, sessionMax-2)
	lines = append(lines, "ask 1 1 join 0 0", "said", "ask 2 1 join 0 0", "said")
	if list := session(t, 0, lines...); list[sessionMax-1] != "1" || list[sessionMax-2] != "ok" {
		t.Errorf("the last answers are %q", list[sessionMax-3:])
	}
	checkP43(t, 0, lines)
}

// TestP43LinesInVain counts the lines that are no commands as well.
func TestP43LinesInVain(t *testing.T) {
	for _, vain := range []string{"", "what", "hear 0 0", "turn 9"} {
		lines := append(slices.Repeat([]string{vain}, sessionMax), "said")
		list := session(t, 1, lines...)
		if len(list) != sessionMax || slices.Contains(list, "0") {
			t.Errorf("%q in vain: %q", vain, list)
		}
		list = session(t, 1, append(lines[1:sessionMax:sessionMax], "said")...)
		if len(list) != sessionMax || list[sessionMax-1] != "0" {
			t.Errorf("%q in vain: %q", vain, list)
		}
	}
}

func TestP43GoodLines(t *testing.T) {
	game := impl.GamePut(impl.GameNew())
	for i, want := range []string{"ok", "ok", "ok", "ok", "ok", "ok", "ok", "ok", "11", "", "0 ok", game} {
		mustAnswer(t, 3, busyLines(), goodLines()[i], want)
	}
}

// notCommands is lines that are each a little beside a command, in words, blanks or letters.
func notCommands(line string) []string {
	words := strings.Split(line, " ")
	list := []string{" " + line, line + " ", line + "  ", "\t" + line, "\n" + line, line + " 0", line + " ok", line + " " + line}
	for n := range words {
		list = append(list, strings.Join(words[:n], " "))
	}
	for i := range line {
		if line[i] == ' ' {
			for _, other := range []string{"  ", "\t", "\n", "\r", "\v", "\x00", "\u00a0", ",", "", " \t ", "_"} {
				list = append(list, line[:i]+other+line[i+1:])
			}
		}
	}
	name, rest := words[0], strings.TrimPrefix(line, words[0])
	for _, other := range []string{
		strings.ToUpper(name), strings.ToUpper(name[:1]) + name[1:], name[:3] + strings.ToUpper(name[3:]) + "S",
		name[1:], name[:len(name)-1], name + "s", name + name, name + ":", "-" + name, "what", "ok", "no", "", "lead", "none", "0",
	} {
		list = append(list, other+rest)
	}
	return slices.DeleteFunc(list, func(s string) bool { return s == line })
}

// TestP43NotCommands leaves out what stands in the place of a number: TestP43Numbers has that.
func TestP43NotCommands(t *testing.T) {
	for _, line := range goodLines() {
		for _, other := range notCommands(line) {
			mustAnswer(t, 3, busyLines(), other, "what")
		}
	}
	for _, other := range []string{"", " ", "  ", "\n", "\t", "\r\n", "\x00", "0", "-1", "none", "wrong", "what", "1 1 join 0 0", "\xff", "agree\n", "said\n", "agree\r", "said\t", "аgree"} {
		mustAnswer(t, 3, busyLines(), other, "what")
		mustAnswer(t, 0, nil, other, "what")
	}
}

// TestP43NearLines has every line that differs from a command in one byte.
func TestP43NearLines(t *testing.T) {
	for _, line := range []string{"agree", "said", "calm 0", "done 0", "view 2"} {
		for _, other := range nearTexts(line) {
			session(t, 2, "turn 1", other, "said", "view 1")
		}
	}
}

// longLines is lines that are commands in their first bytes.
func longLines() []string {
	zeros, blanks := strings.Repeat("0", 5000), strings.Repeat(" ", 5000)
	return []string{"said" + blanks, blanks + "said", "turn " + zeros, "turn" + blanks + "1", "hear 1" + zeros + " 1", "ask " + blanks, "view 1" + zeros, strings.Repeat("agree ", 999)}
}

func TestP43LongLines(t *testing.T) {
	for i, want := range []string{"what", "what", "no", "what", "no", "what", "what", "what"} {
		mustAnswer(t, 3, busyLines(), longLines()[i], want)
	}
}

// TestP43EachReplica asks for each of the replicas, and for what is none.
func TestP43EachReplica(t *testing.T) {
	for bad := range keepers {
		lines := []string{"ask 1 1 join 0 0", "ask 2 1 join 0 0", "calm 3", "calm 3", "turn " + strconv.Itoa((bad+1)%keepers)}
		done, view, game := "", "0 ok", impl.GamePut(impl.GameNew())
		if bad != 0 {
			done = "1 1 join 0 0|2 1 join 0 0"
			game = impl.GamePut(impl.GameFold(mustReqs(t, "1 1 join 0 0", "2 1 join 0 0")))
		}
		for k := range keepers {
			doneK, viewK, gameK := done, view, game
			if k == bad {
				doneK, gameK = "", impl.GamePut(impl.GameNew())
			}
			if k == (bad+1)%keepers {
				viewK = "1 no"
			}
			mustAnswer(t, bad, lines, "done "+strconv.Itoa(k), doneK)
			mustAnswer(t, bad, lines, "view "+strconv.Itoa(k), viewK)
			mustAnswer(t, bad, lines, "game "+strconv.Itoa(k), gameK)
		}
		for _, k := range []string{"-1", "4", "5", "99", "-4", "01", "100", "", "x", "00", "-0", "+1"} {
			for _, name := range []string{"done ", "view ", "game "} {
				mustAnswer(t, bad, lines, name+k, "what")
			}
		}
	}
}

// TestP43DoneHasNone has the first sequence number left out by a leader that is Bad: the next leader fills it with the null request.
func TestP43DoneHasNone(t *testing.T) {
	lines := []string{"ask 1 1 join 0 0", "ask 1 2 take 0 0", "offer 0 2 1 1 join 0 0", "calm 1", "turn 1", "turn 2", "turn 3"}
	for k := 1; k < keepers; k++ {
		mustAnswer(t, 0, lines, "done "+strconv.Itoa(k), "")
		mustAnswer(t, 0, append(lines, "calm 3"), "done "+strconv.Itoa(k), "none|1 1 join 0 0|1 2 take 0 0")
		mustAnswer(t, 0, append(lines, "calm 3"), "view "+strconv.Itoa(k), "1 ok")
	}
}

// TestP43Calm has each number of rounds, at the beginning and behind what calls for each of them.
func TestP43Calm(t *testing.T) {
	for n := -1; n <= calmMax+1; n++ {
		want := "what"
		if n >= 0 && n <= calmMax {
			want = "ok"
		}
		for bad := range keepers {
			line := "calm " + strconv.Itoa(n)
			mustAnswer(t, bad, nil, line, want)
			mustAnswer(t, bad, []string{"turn 1", "turn 2", "turn 3", "ask 1 1 join 0 0", "turn 2", "turn 1"}, line, want)
			mustAnswer(t, bad, busyLines(), line, want)
		}
	}
	lines := []string{"ask 2 1 join 0 0", "ask 1 1 join 0 0"}
	mustAnswer(t, 3, append(lines, "calm 0"), "said", "2")
	mustAnswer(t, 3, append(lines, "calm -1"), "said", "2")
	mustAnswer(t, 3, append(lines, "calm 4"), "said", "2")
	mustAnswer(t, 3, append(lines, "calm 2"), "done 2", "2 1 join 0 0|1 1 join 0 0")
	mustAnswer(t, 3, append(lines, "calm 1", "calm 1"), "done 1", "2 1 join 0 0|1 1 join 0 0")
}
