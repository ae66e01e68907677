package tests

import (
	"fmt"
	"slices"
	"strconv"
	"strings"
	"testing"

	"loop.example/wapentake/impl"
)

const threeRows = "1181076027 1 1 join 0 0\n1570488456 none\n399527156 4 30 move -1 1\n"

func TestP36Examples(t *testing.T) {
	rows := ledgerOf(t, mustReqs(t, "1 1 join 0 0", "none", "4 30 move -1 1"))
	if s := ledgerPut(t, rows); s != threeRows {
		t.Errorf("LedgerPut is %q", s)
	}
	if back, ok := impl.LedgerGet(threeRows); !ok || !slices.Equal(back, rows) {
		t.Errorf("LedgerGet is %v %v", back, ok)
	}
	if s := ledgerPut(t, rows[1:2]); s != "" {
		t.Errorf("an entry in the wrong place is written as %q", s)
	}
}

func TestP36EachLength(t *testing.T) {
	for _, rows := range someLedgers() {
		s := ledgerPut(t, rows)
		back, ok := impl.LedgerGet(s)
		if !ok || !slices.Equal(back, rows) {
			t.Fatalf("%q is read as %v %v, want %v", s, back, ok, rows)
		}
		overwrite(back, impl.Entry{Sum: -9})
		if again, ok := impl.LedgerGet(s); !ok || !slices.Equal(again, rows) {
			t.Fatalf("%q is read again as %v %v", s, again, ok)
		}
	}
}

func TestP36EachRequest(t *testing.T) {
	for _, r := range append(allAsks(), impl.Req{}) {
		rows := modelChain([]impl.Req{{}, r})
		s := ledgerPut(t, rows)
		if back, ok := impl.LedgerGet(s); !ok || !slices.Equal(back, rows) {
			t.Fatalf("%q is read as %v %v", s, back, ok)
		}
	}
}

func TestP36Empty(t *testing.T) {
	if ledgerPut(t, nil) != "" || ledgerPut(t, []impl.Entry{}) != "" {
		t.Error("the empty ledger is written as something")
	}
	if rows, ok := impl.LedgerGet(""); !ok || len(rows) != 0 {
		t.Errorf("the empty text is read as %v %v", rows, ok)
	}
}

func TestP36NoLedger(t *testing.T) {
	for _, n := range []int{1, 2, 30, folds} {
		rows := ledgerWith(n)
		for _, at := range placesOf(n) {
			bent := slices.Clone(rows)
			bent[at].Sum++
			if s := ledgerPut(t, bent); s != "" {
				t.Errorf("wrong Sum at %d of %d: %q", at, n, s)
			}
			bent = slices.Clone(rows)
			bent[at].Req = otherReq(rows[at].Req)
			if s := ledgerPut(t, bent); s != "" {
				t.Errorf("wrong request at %d of %d: %q", at, n, s)
			}
		}
		for _, e := range wrongEntries(lastSum(rows), n+1) {
			if s := ledgerPut(t, append(slices.Clone(rows), e)); s != "" {
				t.Errorf("%v behind %d entries: %q", e, n, s)
			}
		}
	}
}

func mustNotRead(t *testing.T, s string) {
	t.Helper()
	if rows, ok := impl.LedgerGet(s); ok || len(rows) > 0 {
		t.Errorf("LedgerGet(%q) is %v %v", s, rows, ok)
	}
}

// rowText is the line with the right Sum for a text in place of the request, whatever it is.
func rowText(before, position int, text string) string {
	return fmt.Sprintf("%d %s\n", sumOf(chainText(before, position, text)), text)
}

func TestP37NoEncodings(t *testing.T) {
	a, b, c := "1181076027 1 1 join 0 0\n", "1570488456 none\n", "399527156 4 30 move -1 1\n"
	if a+b+c != threeRows {
		t.Fatal("the lines are not those of the example")
	}
	for _, s := range []string{
		strings.TrimSuffix(threeRows, "\n"), threeRows + "\n", threeRows + "\n\n", "\n", "\n\n", "\n" + threeRows, a + "\n" + b + c, a + b + "\n" + c,
		"none", " ", "none\n", "1 1 join 0 0\n", "0\n", "1181076027\n", "1181076027 \n", " \n", "1727475806 none", "1727475806none\n", "1727475806\tnone\n",
		"1727475806 none none\n", "1727475806 none 1\n", "1727475806 None\n", "1727475806 NONE\n", "1727475806 0 0  0 0\n", "1727475806 0 0 none 0 0\n",
		"+" + a + b + c, "-" + a + b + c, a + "+" + b + c, a + b + "+" + c, a + "-" + b + c,
		"0" + a + b + c, a + "0" + b + c, a + b + "00" + c, a + b + "0x" + c, "1_181076027 1 1 join 0 0\n",
		" " + a + b + c, a + " " + b + c, a + b + " " + c, threeRows + " ", a + b + c + "x",
		"1181076028 1 1 join 0 0\n" + b + c, a + "1570488457 none\n" + c, a + b + "399527155 4 30 move -1 1\n", a + b + "0 4 30 move -1 1\n",
		strconv.Itoa(1181076027+1<<32) + " 1 1 join 0 0\n", strconv.Itoa(1181076027-1<<32) + " 1 1 join 0 0\n", "18446744074890627643 1 1 join 0 0\n",
		b + c, c, b, a + c, a + a, a + a + b + c, a + b + b + c, a + b + c + c, a + b + c + a, c + b + a, b + a + c, a + c + b,
		strings.ReplaceAll(threeRows, "\n", "\r\n"), strings.ReplaceAll(threeRows, "\n", "\r"), strings.ReplaceAll(threeRows, " ", "  "),
		strings.ReplaceAll(threeRows, "\n", " "), strings.ReplaceAll(threeRows, "\n", " \n"), strings.ReplaceAll(threeRows, "\n", ""),
		strings.Replace(threeRows, "join", "JOIN", 1), strings.Replace(threeRows, "1 1 join", "01 1 join", 1), strings.Replace(threeRows, "1 1 join", "1 +1 join", 1),
		strings.Replace(threeRows, "join 0 0", "join 0 -0", 1), strings.Replace(threeRows, "join 0 0", "join 00 0", 1), strings.Replace(threeRows, "join 0 0", "join 0 0 ", 1),
		strings.Replace(threeRows, "7 1", "7  1", 1), strings.Replace(threeRows, "30 move", "30  move", 1), strings.Replace(threeRows, "none", "", 1),
		"\x00", threeRows + "\x00", "\xff" + threeRows, "\ufeff" + threeRows, strings.Repeat("\n", 1000), strings.Repeat(a, 1000), strings.Repeat(" ", 1000),
	} {
		mustNotRead(t, s)
	}
}

// TestP37RequestWrittenOtherwise has texts that are not those of requests, each with the Sum that fits it.
func TestP37RequestWrittenOtherwise(t *testing.T) {
	for _, text := range []string{
		"", " ", "null", "None", "none ", " none", "0 0 none 0 0", "01 1 join 0 0", "1 01 join 0 0", "+1 1 join 0 0", "1 1 join -0 0", "1 1 join 0 00",
		"1 1  join 0 0", " 1 1 join 0 0", "1 1 join 0 0 ", "1 1 Join 0 0", "1 1 1 0 0", "1 1 join", "1 1 join 0 0 0", "1 1 move +1 0", "1\t1 join 0 0",
		"0 1 join 0 0", "5 1 join 0 0", "1 0 join 0 0", "1 31 join 0 0", "1 1 join 1 0", "1 1 move 2 0", "1 1 hit 0 0", "1 1 hit 5 0", "1 1 give 2 0", "1 1 give 2 10", "1 1 fly 0 0",
	} {
		mustNotRead(t, rowText(0, 1, text))
		mustNotRead(t, rowText(0, 1, "none")+rowText(1727475806, 2, text))
		mustNotRead(t, rowText(0, 1, text)+rowText(sumOf(chainText(0, 1, text)), 2, "none"))
	}
	if _, ok := impl.LedgerGet(rowText(0, 1, "none") + rowText(1727475806, 2, "1 1 join 0 0")); !ok {
		t.Error("LedgerGet fails for requests that are written as they should")
	}
}

func TestP37FoldMax(t *testing.T) {
	for _, list := range [][]impl.Req{make([]impl.Req, 3*folds), slices.Concat(foldLists()[folds], foldLists()[folds])} {
		text := ""
		for i, e := range modelChain(list) {
			text += fmt.Sprintf("%d %s\n", e.Sum, textOf(e.Req))
			if i >= folds {
				mustNotRead(t, text)
			} else if rows, ok := impl.LedgerGet(text); !ok || len(rows) != i+1 || impl.LedgerPut(rows) != text {
				t.Fatalf("LedgerGet(%q) is %v %v", text, rows, ok)
			}
		}
	}
}

// TestP37NearTexts has every text near an encoding: what can be read among them is an encoding too.
func TestP37NearTexts(t *testing.T) {
	for _, text := range []string{threeRows, "1727475806 none\n", ledgerPut(t, ledgerWith(2))} {
		for _, s := range nearTexts(text) {
			rows, ok := impl.LedgerGet(s)
			if ok && (impl.LedgerPut(rows) != s || impl.LedgerFar(rows) != len(rows)) || !ok && len(rows) > 0 {
				t.Fatalf("LedgerGet(%q) is %v %v", s, rows, ok)
			}
		}
	}
}

func TestP37EachCut(t *testing.T) {
	text := ledgerPut(t, ledgerWith(folds))
	for n := range len(text) {
		rows, ok := impl.LedgerGet(text[:n])
		whole := n == 0 || text[n-1] == '\n'
		if ok != whole || len(rows) > 0 && !ok || ok && impl.LedgerPut(rows) != text[:n] {
			t.Fatalf("LedgerGet(%q) is %v %v", text[:n], rows, ok)
		}
	}
}
