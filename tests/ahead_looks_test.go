package tests

import (
	"slices"
	"testing"

	"loop.example/wapentake/impl"
)

func TestP41P42EachLength(t *testing.T) {
	seen := map[int]bool{}
	for _, a := range goodAheads() {
		back := cloneAhead(a)
		slices.Reverse(back.Wait)
		_, _, codes := looks(t, a)
		_, _, others := looks(t, back)
		for _, code := range append(codes, others...) {
			seen[code] = true
		}
	}
	for _, code := range []int{0, 2, 3, 4, 5, 6, 7, 8} {
		if !seen[code] {
			t.Errorf("no request that was done ahead has code %d", code)
		}
	}
}

func TestP41Empty(t *testing.T) {
	for _, a := range []impl.Ahead{{}, ahead(backMax, nil, nil), ahead(1, []impl.Req{}, []impl.Req{})} {
		sure, game, codes := looks(t, a)
		if !sameGame(sure, impl.GameNew()) || !sameGame(game, impl.GameNew()) || len(codes) > 0 {
			t.Errorf("%v looks like %v and %v, with codes %v", a, sure, game, codes)
		}
		if !sameGame(impl.AheadSure(a), impl.GameNew()) || !sameGame(impl.AheadGame(a), impl.GameNew()) {
			t.Errorf("%v is no new game", a)
		}
	}
}

func TestP41OneListIsEmpty(t *testing.T) {
	for _, all := range foldLists() {
		looks(t, ahead(0, all, nil))
		looks(t, ahead(0, nil, all))
		if !sameGame(impl.AheadSure(ahead(0, all, nil)), impl.AheadGame(ahead(0, nil, all))) {
			t.Errorf("%v is another game when it is confirmed", all)
		}
	}
}

// TestP41EachCut has the same requests, of which more and more are confirmed.
func TestP41EachCut(t *testing.T) {
	for _, n := range []int{1, 2, 9, 33, folds} {
		all := foldLists()[n]
		for cut := range n + 1 {
			a := ahead(cut, all[:cut:cut], all[cut:])
			_, game, _ := looks(t, a)
			if !sameGame(game, impl.GameFold(all)) {
				t.Fatalf("%d of %d confirmed: %v", cut, n, game)
			}
		}
	}
}

func TestP42Codes(t *testing.T) {
	done := mustReqs(t, "1 1 join 0 0", "none", "2 1 join 0 0", "1 2 take 0 0")
	wait := mustReqs(t, "1 2 take 0 0", "1 3 give 2 1", "none", "1 4 take 0 0", "1 5 take 0 0", "2 2 join 0 0", "3 1 take 0 0", "3 1 join 0 0", "2 3 hit 4 0", "1 6 move 0 -1", "1 7 move 0 1")
	a := ahead(0, done, wait)
	if _, _, codes := looks(t, a); !slices.Equal(codes, []int{3, 0, 2, 0, 7, 4, 5, 3, 8, 6, 0}) {
		t.Errorf("the codes are %v", codes)
	}
	if codes := impl.AheadCodes(ahead(0, nil, wait)); !slices.Equal(codes, []int{5, 5, 2, 5, 5, 0, 5, 3, 8, 5, 5}) {
		t.Errorf("the codes are %v, if nothing is confirmed", codes)
	}
	if codes := impl.AheadCodes(ahead(0, done, nil)); len(codes) > 0 {
		t.Errorf("the codes are %v, if nothing was done ahead", codes)
	}
}

// TestP42AfterARollback has a request that went well until another one was confirmed before it.
func TestP42AfterARollback(t *testing.T) {
	a := ahead(0, mustReqs(t, "1 1 join 0 0", "2 1 join 0 0"), mustReqs(t, "1 2 take 0 0", "1 3 take 0 0", "1 4 give 2 1"))
	if _, _, codes := looks(t, a); !slices.Equal(codes, []int{0, 0, 0}) {
		t.Fatalf("the codes are %v", codes)
	}
	a, _ = keep(t, a, mustReq(t, "1 3 take 0 0"))
	if _, _, codes := looks(t, a); a.Back != 1 || !slices.Equal(codes, []int{3, 0}) {
		t.Errorf("%v has codes %v", a, codes)
	}
	for _, r := range mustReqs(t, "2 2 hit 1 0", "2 3 hit 1 0", "2 4 hit 1 0") {
		a, _ = keep(t, a, r)
	}
	if _, _, codes := looks(t, a); a.Back != 4 || !slices.Equal(codes, []int{3, 5}) {
		t.Errorf("%v has codes %v", a, codes)
	}
}

func TestP41P42Invalid(t *testing.T) {
	for name, a := range badAheads() {
		looks(t, a)
		if !isZeroGame(impl.AheadGame(a)) || !isZeroGame(impl.AheadSure(a)) || impl.AheadCodes(a) != nil {
			t.Errorf("%s: %v %v %v", name, impl.AheadGame(a), impl.AheadSure(a), impl.AheadCodes(a))
		}
	}
}

// TestP38P42AnyPlay does requests ahead and confirms some, in and out of order, until there is no room.
func TestP38P42AnyPlay(t *testing.T) {
	c := &chance{state: 42}
	full := 0
	for range 60 {
		var a impl.Ahead
		for i := range 2 * folds {
			asks := asksOf(1+c.below(clients), min(numbers, 1+i/3))
			r := asks[c.below(len(asks))]
			switch c.below(6) {
			case 0, 1, 2:
				a, _ = push(t, a, r)
			case 3:
				a, _ = keep(t, a, r)
			case 4:
				a, _ = keep(t, a, impl.Req{})
			default:
				if len(a.Wait) > 0 {
					a, _ = keep(t, a, a.Wait[c.below(min(3, len(a.Wait)))])
				}
			}
		}
		looks(t, a)
		if len(a.Done)+len(a.Wait) == folds {
			full++
		}
	}
	if full == 0 {
		t.Error("no play comes to FoldMax elements")
	}
}
