package tests

import (
	"slices"
	"strconv"
	"strings"
	"testing"
)

// oddNumbers is what stands in the place of a number and is none: a number has one digit or two, no leading zero, and a leading "-" only.
func oddNumbers() []string {
	return []string{
		"100", "101", "999", "-100", "-999", "000", "001", "011", "00", "01", "02", "05", "07", "09", "-00", "-0", "-01", "-05",
		"+0", "+1", "+2", "+10", "--1", "-+1", "+-1", "-", "+", "1-", "0-", "", "x", "a", "O", "l", "1x", "x1", "1a", "0x1", "0b1", "0o1",
		"1.0", "1.", ".1", "1,", "1_0", "0_1", "1e0", "1'", "\"1\"", "(1)", "1\n", "\n1", "1\t", "\t1", "1\r", "\x001", "1\x00", "\u00a01",
		"\u0661", "\uff11", "\xb9", "one", "none", "true", "nil", "4294967296", "4294967297", "256", "257",
		"18446744073709551616", "18446744073709551617", "9223372036854775807", "9223372036854775808", "-9223372036854775808",
		strings.Repeat("0", 99) + "1", strings.Repeat("1", 99),
	}
}

// place is where a command has a number: what comes before and behind it, which numbers are in range, and the answer with one that is not.
type place struct {
	before, behind string
	low, high      int
	off            string
}

// places is those where each number in range is answered by something else than off, after busyLines.
func places() []place {
	list := []place{
		{"hear ", " 0", 0, 10, "no"}, {"hear ", " 2", 0, 10, "no"}, {"hear 0 ", "", 0, 2, "no"}, {"hear 10 ", "", 0, 2, "no"},
		{"turn ", "", 0, 2, "no"}, {"calm ", "", 0, calmMax, "what"},
		{"done ", "", 0, keepers - 1, "what"}, {"view ", "", 0, keepers - 1, "what"}, {"game ", "", 0, keepers - 1, "what"},
	}
	for _, name := range []string{"ask ", "offer 0 1 ", "yes 2 3 ", "sure 6 5 "} {
		list = append(list,
			place{name, " 7 take 0 0", 1, clients, "what"}, place{name + "4 ", " take 0 0", 1, numbers, "what"},
			place{name + "4 9 move ", " 1", -1, 1, "what"}, place{name + "4 9 move 0 ", "", -1, 1, "what"},
			place{name + "4 9 hit ", " 0", 1, clients, "what"}, place{name + "4 9 give 1 ", "", 1, 9, "what"})
	}
	for _, name := range []string{"offer", "yes", "sure"} {
		for _, text := range []string{"1 1 join 0 0", "4 30 give 4 9"} {
			list = append(list,
				place{name + " ", " 1 " + text, 0, lastView, "no"},
				place{name + " ", " 5 " + text, 0, lastView, "no"},
				place{name + " 0 ", " " + text, 1, lastSeq, "no"},
				place{name + " 6 ", " " + text, 1, lastSeq, "no"})
		}
	}
	return list
}

// TestP43Numbers has each number of one digit or two in each place.
func TestP43Numbers(t *testing.T) {
	for _, p := range places() {
		for n := -99; n <= 99; n++ {
			line := p.before + strconv.Itoa(n) + p.behind
			list := answersIn(t, sessionOf(t, 3, append(busyLines(), line)))
			got := list[len(list)-1]
			if good := n >= p.low && n <= p.high; good == (got == p.off) {
				t.Errorf("%q is %q", line, got)
			}
		}
	}
}

func TestP43NotNumbers(t *testing.T) {
	for _, p := range places() {
		for _, odd := range oddNumbers() {
			mustAnswer(t, 3, busyLines(), p.before+odd+p.behind, p.off)
		}
		// A blank is no word, but parts two of them.
		mustAnswer(t, 3, busyLines(), p.before+" "+p.behind, "what")
	}
}

// TestP43TwoDigits has messages of which one needs two digits to name it.
func TestP43TwoDigits(t *testing.T) {
	var lines []string
	for num := 1; num <= 30; num++ {
		lines = append(lines, "ask 1 "+strconv.Itoa(num)+" take 0 0")
	}
	mustAnswer(t, 1, lines, "hear 9 0", "ok")
	mustAnswer(t, 1, lines, "hear 10 0", "ok")
	mustAnswer(t, 1, lines, "hear 29 0", "ok")
	mustAnswer(t, 1, lines, "hear 30 0", "no")
	mustAnswer(t, 1, append(lines, "hear 17 0", "calm 1"), "done 0", "1 18 take 0 0|1 1 take 0 0|1 2 take 0 0|1 3 take 0 0|1 4 take 0 0")
}

// TestP43LastMessage has a hundred messages, the last of which is number 99.
func TestP43LastMessage(t *testing.T) {
	lines := fullLines(t)
	mustAnswer(t, 3, lines, "said", "100")
	mustAnswer(t, 3, lines, "hear 99 0", "ok")
	mustAnswer(t, 3, lines, "hear 100 0", "no")
	mustAnswer(t, 3, lines, "ask 4 9 join 0 0", "no")
	mustAnswer(t, 3, lines, "yes 6 5 none", "no")
	mustAnswer(t, 3, lines, "turn 1", "no")
	mustAnswer(t, 3, lines, "calm 3", "ok")
	mustAnswer(t, 3, lines[:len(lines)-1], "ask 4 9 join 0 0", "ok")
	mustAnswer(t, 3, append(lines[:len(lines)-1:len(lines)-1], "ask 4 9 join 0 0"), "ask 4 10 join 0 0", "no")
}

// fullLines is a session in which as many messages are sent as there is room for; Bad is 3.
func fullLines(t *testing.T) []string {
	t.Helper()
	var lines []string
	for client := 1; client <= clients; client++ {
		lines = append(lines, "ask "+strconv.Itoa(client)+" 1 join 0 0")
	}
	lines = append(lines, "ask 1 2 take 0 0", "calm 3")
	for range 2 {
		lines = append(lines, "turn 0", "turn 1", "turn 2", "calm 1", "calm 1")
	}
	said, _ := strconv.Atoi(session(t, 3, append(lines, "said")...)[len(lines)])
	for n := said; n < saidMax; n++ {
		lines = append(lines, "yes "+strconv.Itoa(n%(lastView+1))+" "+strconv.Itoa(1+n%lastSeq)+" none")
	}
	if len(lines) > sessionMax-20 {
		t.Fatalf("%d messages after 16 lines, and %d lines", said, len(lines))
	}
	return lines
}

// TestP43EachRequest has every valid request asked for, twice.
func TestP43EachRequest(t *testing.T) {
	var lines, want []string
	sent := 0
	all := allAsks()
	for i, r := range all {
		sent++
		lines = append(lines, "ask "+textOf(r), "ask "+textOf(r), "said")
		want = append(want, "ok", "no", strconv.Itoa(sent))
		if len(lines) == 48 || i == len(all)-1 {
			if got := answersIn(t, sessionOf(t, i%keepers, lines)); !slices.Equal(got, want) {
				t.Fatalf("%q is answered %q", lines, got)
			}
			lines, want, sent = nil, nil, 0
		}
	}
}

// otherwise is requests that are written otherwise than ReqPut writes them, and what is no request.
func otherwise() []string {
	return []string{
		"", " ", "1 1 join 0", "1 1 join", "1 1", "1", "1 1 join 0 0 0", "1 1 join 0 0 ", " 1 1 join 0 0", "1  1 join 0 0", "1 1  join 0 0",
		"1 1 join  0 0", "1 1 join 0  0", "1 1 join 0\t0", "1 1 join 0 0\n", "\t1 1 join 0 0", "1 1 join\n0 0",
		"01 1 join 0 0", "1 01 join 0 0", "1 1 join 00 0", "1 1 join 0 00", "+1 1 join 0 0", "1 +1 join 0 0", "1 1 join +0 0", "1 1 join -0 0", "1 1 join 0 -0",
		"1 1 move +1 0", "1 1 move -01 0", "1 1 move 0 -00", "1 001 take 0 0",
		"1 1 JOIN 0 0", "1 1 Join 0 0", "1 1 joi 0 0", "1 1 joins 0 0", "1 1 1 0 0", "1 1  0 0", "1,1,join,0,0", "x 1 join 0 0", "1 x join 0 0", "1 1 join x 0",
		"0 1 join 0 0", "5 1 join 0 0", "-1 1 join 0 0", "1 0 join 0 0", "1 31 join 0 0", "1 -1 join 0 0", "1 100 join 0 0", "1 1 join 1 0", "1 1 join 0 1",
		"1 1 move 2 0", "1 1 move 0 -2", "1 1 take 1 0", "1 1 hit 0 0", "1 1 hit 5 0", "1 1 hit 1 1", "1 1 give 2 0", "1 1 give 2 10", "1 1 give 0 1", "1 1 give 5 1",
		"None", "NONE", "non", "nones", "none ", " none", "none 0", "none none", "null", "0 0 none 0 0", "0 0 0 0 0", "what",
	}
}

func TestP43RequestWrittenOtherwise(t *testing.T) {
	for _, name := range []string{"ask ", "offer 3 1 ", "yes 0 1 ", "sure 0 1 "} {
		for _, text := range otherwise() {
			mustAnswer(t, 3, busyLines(), name+text, "what")
		}
	}
}

// TestP43NoRequestComesFirst has a view or a sequence number out of range as well: what is no request is no command, whatever the numbers are.
func TestP43NoRequestComesFirst(t *testing.T) {
	for _, name := range []string{"offer ", "yes ", "sure "} {
		for _, numbers := range []string{"7 1 ", "0 0 ", "-1 6 ", "x y ", "07 +1 ", " 1 ", "100 100 "} {
			mustAnswer(t, 3, busyLines(), name+numbers+"1 1 join 0 1", "what")
			mustAnswer(t, 3, busyLines(), name+numbers+"1 1 join 0 0", "no")
		}
	}
}

func TestP43None(t *testing.T) {
	for bad := range keepers {
		mustAnswer(t, bad, nil, "ask none", "no")
		mustAnswer(t, bad, nil, "offer 0 1 none", "no")
		mustAnswer(t, bad, nil, "offer 7 1 none", "no")
		mustAnswer(t, bad, nil, "yes 0 1 none", "ok")
		mustAnswer(t, bad, nil, "sure 0 1 none", "ok")
		mustAnswer(t, bad, nil, "yes 0 6 none", "no")
		mustAnswer(t, bad, nil, "sure -1 1 none", "no")
	}
}

// TestP43NearRequests has each text that differs from a command with a request in one byte.
func TestP43NearRequests(t *testing.T) {
	for _, line := range []string{"ask 1 2 hit 3 0", "sure 0 2 none"} {
		for _, other := range nearTexts(line) {
			session(t, 1, other, "said")
		}
	}
}
