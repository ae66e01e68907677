package tests

import (
	"slices"
	"testing"

	"loop.example/wapentake/impl"
)

func TestLimitsOfAhead(t *testing.T) {
	if impl.BackMax != backMax {
		t.Errorf("BackMax is %d", impl.BackMax)
	}
}

func TestP38ValidAndInvalid(t *testing.T) {
	for _, a := range goodAheads() {
		if !modelAheadOk(a) || !impl.AheadOk(a) {
			t.Errorf("AheadOk is false of %v", a)
		}
	}
	for name, a := range badAheads() {
		if modelAheadOk(a) || impl.AheadOk(a) {
			t.Errorf("%s: AheadOk is true of %v", name, a)
		}
	}
	for back := range backMax + 1 {
		if !impl.AheadOk(impl.Ahead{Back: back}) {
			t.Errorf("AheadOk is false with Back %d", back)
		}
	}
}

func TestP38Example(t *testing.T) {
	var a impl.Ahead
	for _, x := range []struct {
		text string
		code int
	}{
		{"1 1 join 0 0", 0}, {"1 2 take 0 0", 0}, {"1 3 move -1 0", 6}, {"1 3 take 0 0", 3}, {"1 4 join 0 0", 4},
		{"2 1 take 0 0", 5}, {"2 2 join 0 0", 0}, {"1 5 give 3 1", 8}, {"1 6 give 2 2", 7}, {"1 7 give 2 1", 0},
	} {
		next, ok := push(t, a, mustReq(t, x.text))
		if !ok || len(next.Wait) != len(a.Wait)+1 || len(next.Done) != 0 || next.Back != 0 {
			t.Fatalf("%s done ahead in %v: %v", x.text, a, next)
		}
		a = next
		if codes := impl.AheadCodes(a); codes[len(codes)-1] != x.code {
			t.Errorf("%s has code %d, want %d", x.text, codes[len(codes)-1], x.code)
		}
	}
	want := []impl.Ent{{Client: 1, Life: 3}, {Client: 2, X: 1, Y: 1, Life: 3, Gold: 1}}
	if g := impl.AheadGame(a); !slices.Equal(g.Ents, want) || !slices.Equal(g.Last, []int{7, 2, 0, 0}) || g.Floor[0] != 1 {
		t.Errorf("AheadGame is %v", g)
	}
	if !sameGame(impl.AheadSure(a), impl.GameNew()) {
		t.Errorf("AheadSure is %v", impl.AheadSure(a))
	}
}

// TestP38FoldMax pushes until there is no room, behind each number of confirmed requests.
func TestP38FoldMax(t *testing.T) {
	all := mustReqs(t, "1 1 join 0 0", "1 1 join 0 0", "2 1 join 0 0", "1 2 take 0 0", "2 2 hit 1 0", "4 30 join 0 0")
	for done := range folds + 1 {
		a := ahead(5, foldLists()[done], nil)
		for i := range folds + 2 - done {
			next, ok := push(t, a, all[i%len(all)])
			if ok != (done+i < folds) {
				t.Fatalf("%d done, %d ahead: %v", done, i, ok)
			}
			a = next
		}
		if len(a.Done) != done || len(a.Wait) != folds-done || a.Back != 5 {
			t.Fatalf("%d done: %v", done, a)
		}
		looks(t, a)
	}
}

func TestP38EachRequest(t *testing.T) {
	list := foldLists()[8]
	for _, a := range []impl.Ahead{{}, ahead(2, list[:5:5], list[5:])} {
		for _, r := range allAsks() {
			if _, ok := push(t, a, r); !ok {
				t.Fatalf("%v is not done ahead in %v", r, a)
			}
		}
	}
}

func TestP38NoRequest(t *testing.T) {
	for _, a := range goodAheads() {
		for _, r := range []impl.Req{{}, {Client: 1}, {Client: 5, Num: 1, Op: 1}} {
			if got, ok := push(t, a, r); ok || !sameAhead(got, a) {
				t.Fatalf("%v done ahead in %v: %v", r, a, got)
			}
		}
	}
	list := foldLists()[4]
	for _, a := range []impl.Ahead{{}, ahead(backMax, list[:2:2], list[2:]), ahead(0, foldLists()[folds], nil)} {
		for _, r := range badAsks() {
			if got, ok := push(t, a, r); ok || !sameAhead(got, a) {
				t.Fatalf("%v done ahead in %v: %v", r, a, got)
			}
		}
	}
}

func TestP38Invalid(t *testing.T) {
	for name, a := range badAheads() {
		for _, r := range []impl.Req{joinOf(1), {}, {Client: 5}} {
			if got, ok := push(t, a, r); ok || !isZeroAhead(got) {
				t.Fatalf("%s: %v done ahead: %v %v", name, r, got, ok)
			}
		}
	}
}

// TestP40EachLength confirms what was done ahead, in order, and looks at every step.
func TestP40EachLength(t *testing.T) {
	for _, a := range goodAheads() {
		sure := impl.AheadGame(a)
		now := a
		for _, r := range a.Wait {
			next, ok := keep(t, now, r)
			if !ok || next.Back != a.Back || !sameGame(impl.AheadGame(next), sure) {
				t.Fatalf("%v confirmed in %v: %v %v", r, now, next, ok)
			}
			now = next
		}
		if len(now.Wait) > 0 || !sameGame(impl.AheadSure(now), sure) || now.Back != a.Back {
			t.Fatalf("all of %v confirmed: %v", a, now)
		}
		if !slices.Equal(now.Done, slices.Concat(a.Done, a.Wait)) {
			t.Fatalf("all of %v confirmed: %v", a, now)
		}
	}
}

func TestP40OneRequestTwice(t *testing.T) {
	r, s := joinOf(1), joinOf(2)
	a := ahead(backMax-1, []impl.Req{r}, []impl.Req{r, r, s, r, s})
	for _, next := range a.Wait {
		a, _ = keep(t, a, next)
	}
	if a.Back != backMax-1 || !slices.Equal(a.Done, []impl.Req{r, r, r, s, r, s}) || len(a.Wait) > 0 {
		t.Error(a)
	}
}
