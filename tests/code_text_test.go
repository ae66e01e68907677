package tests

import (
	"slices"
	"strconv"
	"strings"
	"testing"
	"unicode"

	"loop.example/wapentake/impl"
)

func TestP46Empty(t *testing.T) {
	for _, s := range []string{"", "\n", " ", "none\n", "none", "\x00", "\n\n"} {
		mustNotReadMsg(t, s)
	}
}

// linesOf is the lines of a text, each without its newline.
func linesOf(s string) []string {
	return strings.Split(strings.TrimSuffix(s, "\n"), "\n")
}

func textOfLines(lines []string) string {
	return strings.Join(lines, "\n") + "\n"
}

// eachText calls look with the text of each good message.
func eachText(look func(s string)) {
	for _, x := range codedMsgs() {
		look(x.text)
	}
	for _, g := range goodMsgs() {
		look(rawMsg(g.msg))
	}
}

func TestP46EachCut(t *testing.T) {
	eachText(func(s string) {
		for n := range len(s) {
			m, ok := msgGet(t, s[:n])
			// Whole lines of claims and votes may be cut off: what is left is another message then.
			if ok && (s[n-1] != '\n' || m.Kind < 5) {
				t.Errorf("MsgGet(%q) is %v", s[:n], m)
			}
			mustNotReadMsg(t, s[n+1:])
		}
	})
}

func TestP46NoNewline(t *testing.T) {
	eachText(func(s string) {
		mustNotReadMsg(t, strings.TrimSuffix(s, "\n"))
		mustNotReadMsg(t, strings.ReplaceAll(s, "\n", ""))
		mustNotReadMsg(t, strings.ReplaceAll(s, "\n", "\r"))
		mustNotReadMsg(t, strings.ReplaceAll(s, "\n", "\r\n"))
		mustNotReadMsg(t, strings.ReplaceAll(s, "\n", " "))
		mustNotReadMsg(t, strings.ReplaceAll(s, "\n", " \n"))
		mustNotReadMsg(t, strings.ReplaceAll(s, "\n", "\n "))
	})
}

// moreLines is lines that no text may have anywhere behind the first one, some of them nearly claims and votes.
func moreLines() []string {
	return []string{
		"", " ", "x", "none", "claim", "vote", "claim ", "vote ", "votes 1", "claims 1 0 none", "ask 0 0 0 1 1 join 0 0", "lead 1 1 0 none", "turn 1 1 0 none",
		"claim 1", "claim 1 0", "claim 1 0 ", "claim 1 none", "claim 1 0 0 none", "claim 1 0 none none", "claim none", "claim 1 0 1 1 join 0", "claim 1 0 1 1 join 0 0 0",
		"claim 0 0 none", "claim 6 0 none", "claim -1 0 none", "claim 1 7 none", "claim 1 -1 none", "claim x 0 none", "claim 1 x none", "claim 1 0 x", "claim 10 0 none",
		"claim 1 0 5 1 join 0 0", "claim 1 0 0 1 join 0 0", "claim 1 0 1 31 join 0 0", "claim 1 0 1 0 join 0 0", "claim 1 0 1 1 move 2 0", "claim 1 0 1 1 fly 0 0", "claim 1 0 0 0 none 0 0",
		"vote -1", "vote 4", "vote x", "vote none", "vote 1 1", "vote 1 none", "vote 1 0 none", "vote 10", "vote 1_0", "vote 0x1", "vote 1 claim 1 0 none",
		"vote 9223372036854775807", "vote 9223372036854775808", "vote 18446744073709551617", "claim 4294967297 0 none", "claim 18446744073709551617 0 none",
	}
}

func TestP46LineMore(t *testing.T) {
	eachText(func(s string) {
		lines := linesOf(s)
		for at := range len(lines) + 1 {
			for _, more := range moreLines() {
				mustNotReadMsg(t, textOfLines(slices.Insert(slices.Clone(lines), at, more)))
			}
			for _, more := range []string{"claim 3 2 none", "claim 1 1 2 1 join 0 0", "vote 2", "vote 0"} {
				_, ok := msgGet(t, textOfLines(slices.Insert(slices.Clone(lines), at, more)))
				if ok && (at == 0 || s[0] != 't' && s[0] != 'l') {
					t.Errorf("%q may be put into %q at %d", more, s, at)
				}
			}
		}
	})
}

func TestP46LineTwice(t *testing.T) {
	eachText(func(s string) {
		lines := linesOf(s)
		for at, line := range lines {
			mustNotReadMsg(t, textOfLines(slices.Insert(slices.Clone(lines), at, line)))
		}
		mustNotReadMsg(t, s+s)
	})
}

// TestP46OtherOrder has each line in each other place. Lines of votes may be exchanged to make another message, which the model tells.
func TestP46OtherOrder(t *testing.T) {
	read := 0
	eachText(func(s string) {
		lines := linesOf(s)
		for from, line := range lines {
			rest := slices.Delete(slices.Clone(lines), from, from+1)
			for to := range lines {
				moved := slices.Insert(slices.Clone(rest), to, line)
				_, ok := msgGet(t, textOfLines(moved))
				if ok && (from == 0 || to == 0) && from != to {
					t.Errorf("the first line of %q may stand at %d", textOfLines(moved), to)
				}
				if ok && from != to {
					read++
				}
			}
			if _, ok := msgGet(t, textOfLines(rest)); ok && from == 0 {
				t.Errorf("%q is read without its first line", s)
			}
		}
	})
	if read == 0 {
		t.Error("no claim may stand behind another vote")
	}
}

func TestP46ClaimsOfVotes(t *testing.T) {
	head, a, b := "lead 1 1 0 none\n", "claim 1 0 none\n", "claim 2 0 1 1 join 0 0\n"
	ca, cb := claim(1, 0, impl.Req{}), claim(2, 0, joinOf(1))
	for _, x := range []codedMsg{
		{leadOf(1, 1, vote(0, ca, cb), vote(2)), head + "vote 0\n" + a + b + "vote 2\n"},
		{leadOf(1, 1, vote(0, ca), vote(2, cb)), head + "vote 0\n" + a + "vote 2\n" + b},
		{leadOf(1, 1, vote(0), vote(2, ca, cb)), head + "vote 0\nvote 2\n" + a + b},
		{leadOf(1, 1, vote(0, cb), vote(2, ca)), head + "vote 0\n" + b + "vote 2\n" + a},
		{leadOf(1, 1, vote(0, ca), vote(2, ca)), head + "vote 0\n" + a + "vote 2\n" + a},
	} {
		if m, ok := msgGet(t, x.text); !ok || !impl.MsgSame(m, x.msg) {
			t.Errorf("%q is read as %v %v, want %v", x.text, m, ok, x.msg)
		}
	}
	for _, s := range []string{
		head + a, head + a + b, head + a + "vote 0\n", head + a + "vote 0\n" + b, head + a + b + "vote 0\nvote 2\n", head + "vote 0\n" + b + a, head + "vote 0\n" + a + a,
		a + head, a + head + "vote 0\n", "vote 0\n" + head, "vote 0\n" + a + head, a, b, a + b, "vote 0\n", "vote 0\n" + a, a + "turn 1 1 0 none\n", a + "turn 1 1 0 none\n" + b,
		"turn 1 1 0 none\n" + b + a, "turn 1 1 0 none\nvote 1\n", "turn 1 1 0 none\nvote 1\n" + a, "turn 1 1 0 none\n" + a + "vote 1\n", "turn 1 1 0 none\n" + a + "vote 1\n" + b,
		"ask 0 0 0 1 1 join 0 0\n" + a, "offer 1 1 1 1 1 join 0 0\n" + a, "yes 1 1 1 none\n" + a, "sure 1 1 1 none\nvote 1\n", a + "yes 1 1 1 none\n", a + "ask 0 0 0 1 1 join 0 0\n",
	} {
		mustNotReadMsg(t, s)
	}
}

func TestP46Blanks(t *testing.T) {
	eachText(func(s string) {
		for i, b := range s {
			if b != ' ' && b != '\n' {
				continue
			}
			for _, more := range []string{" ", "\n", "\t", "\r", "\x00"} {
				mustNotReadMsg(t, s[:i]+more+s[i:])
				mustNotReadMsg(t, s[:i+1]+more+s[i+1:])
				if more != string(b) {
					mustNotReadMsg(t, s[:i]+more+s[i+1:])
				}
			}
		}
		for _, more := range []string{" ", "\n", "\t", "\x00", "\ufeff", "\xff", "x", "-", "+", "0"} {
			mustNotReadMsg(t, more+s)
			mustNotReadMsg(t, s+more)
		}
	})
}

// eachWord calls look with each word of a text, and what stands before and behind it.
func eachWord(s string, look func(before, word, behind string)) {
	start := 0
	for i, b := range s {
		if b == ' ' || b == '\n' {
			look(s[:start], s[start:i], s[i:])
			start = i + 1
		}
	}
}

func TestP46NumbersWrittenOtherwise(t *testing.T) {
	eachText(func(s string) {
		eachWord(s, func(before, word, behind string) {
			n, err := strconv.Atoi(word)
			if err != nil {
				return
			}
			abs := strings.TrimPrefix(word, "-")
			for _, other := range []string{
				"0" + word, "00" + word, "+" + word, "-0" + abs, "+-" + abs, "--" + abs, "0x" + word, word + ".0", word + "_", "_" + word, word + "e0", "",
				strconv.Itoa(n + 1<<32), "18446744073709551616", "9223372036854775807", "-9223372036854775808", "100", "-10", "x", "none",
			} {
				mustNotReadMsg(t, before+other+behind)
			}
			if n == 0 {
				mustNotReadMsg(t, before+"-0"+behind)
			}
			// Some of these are in range; the model tells which.
			for m := -2; m <= 32; m++ {
				msgGet(t, before+strconv.Itoa(m)+behind)
			}
		})
	})
}

func TestP46WordsWrittenOtherwise(t *testing.T) {
	eachText(func(s string) {
		eachWord(s, func(before, word, behind string) {
			if !unicode.IsLetter(rune(word[0])) {
				return
			}
			first := strings.ToUpper(word[:1]) + word[1:]
			for _, other := range []string{strings.ToUpper(word), first, "", "x", word + "s", word[1:], word[:len(word)-1], word + word, "claim", "vote", "lie", "null", "0"} {
				if other != word {
					mustNotReadMsg(t, before+other+behind)
				}
			}
			for _, other := range append(msgWords[1:], "none", "join", "take", "move", "hit", "give") {
				msgGet(t, before+other+behind)
			}
		})
	})
}

// TestP46FirstLine has every kind of message with each null and valid request.
func TestP46FirstLine(t *testing.T) {
	want := map[string]bool{
		"ask 0 0 0 2 1 join 0 0\n": true, "offer 1 1 1 2 1 join 0 0\n": true, "yes 1 1 1 2 1 join 0 0\n": true, "yes 1 1 1 none\n": true,
		"sure 1 1 1 2 1 join 0 0\n": true, "sure 1 1 1 none\n": true, "turn 1 1 0 none\n": true, "lead 1 1 0 none\n": true, "turn 0 0 0 none\n": true, "lead 0 0 0 none\n": true,
	}
	for _, word := range append(msgWords, "claim", "vote", "lie") {
		for _, numbers := range []string{"0 0 0", "1 1 0", "1 1 1", "1 0 0", "0 1 0", "0 0", "1 1", "1 1 1 1", "1", ""} {
			for _, r := range []string{"none", "2 1 join 0 0", ""} {
				s := word + " " + numbers + " " + r + "\n"
				if _, ok := msgGet(t, s); want[s] && !ok {
					t.Errorf("MsgGet(%q) fails", s)
				}
			}
		}
	}
	for _, s := range []string{"offer 0 0 1 none\n", "ask 0 0 0 none\n", "turn 1 1 0 1 1 join 0 0\n", "lead 1 1 0 1 1 join 0 0\n", "turn 1 1 1 none\n", "lead 1 1 1 none\n", "yes 1 0 0 none\n"} {
		mustNotReadMsg(t, s)
	}
}

func TestP46NearTexts(t *testing.T) {
	taken := 0
	for _, x := range codedMsgs() {
		for _, s := range nearTexts(x.text) {
			if _, ok := msgGet(t, s); ok {
				taken++
			}
		}
	}
	if taken == 0 {
		t.Error("no text near an encoding is one")
	}
}

// TestP46AnyLines has texts of lines in any order, of which few are encodings.
func TestP46AnyLines(t *testing.T) {
	heads := []string{"turn 1 1 0 none", "lead 1 1 0 none", "lead 0 2 0 none", "ask 0 0 0 1 1 join 0 0", "yes 2 1 1 none"}
	lines := []string{"claim 1 0 none", "claim 2 1 1 1 join 0 0", "claim 4 0 2 3 take 0 0", "vote 0", "vote 1", "vote 3"}
	c := &chance{state: 46}
	taken := map[int]int{}
	for range 30000 {
		list := []string{heads[c.below(len(heads))]}
		for range c.below(6) {
			list = append(list, lines[c.below(len(lines))])
		}
		if c.below(10) == 0 {
			shuffle(c, list)
		}
		if _, ok := msgGet(t, textOfLines(list)); ok {
			taken[len(list)]++
		}
	}
	for n := 1; n <= 6; n++ {
		if taken[n] == 0 {
			t.Errorf("no text of %d lines is an encoding", n)
		}
	}
}

func TestP46LongTexts(t *testing.T) {
	for _, s := range []string{
		"lead 1 1 0 none\n" + strings.Repeat("vote 0\n", 5000), "turn 1 1 0 none\n" + strings.Repeat("claim 1 0 none\n", 5000), strings.Repeat("lead 1 1 0 none\n", 5000),
		strings.Repeat("\n", 5000), strings.Repeat(" ", 5000), strings.Repeat("ask ", 5000), "vote " + strings.Repeat("0", 5000) + "\n", "yes " + strings.Repeat("1", 5000) + " 0 1 none\n",
	} {
		mustNotReadMsg(t, s)
	}
}
