package tests

import (
	"math"
	"slices"
	"strconv"
	"testing"

	"loop.example/wapentake/impl"
)

// backMax is the limit as the document gives it.
const backMax = 99

func ahead(back int, done, wait []impl.Req) impl.Ahead {
	return impl.Ahead{Done: done, Wait: wait, Back: back}
}

func cloneAhead(a impl.Ahead) impl.Ahead {
	return ahead(a.Back, slices.Clone(a.Done), slices.Clone(a.Wait))
}

func sameAhead(a, b impl.Ahead) bool {
	return a.Back == b.Back && slices.Equal(a.Done, b.Done) && slices.Equal(a.Wait, b.Wait)
}

func isZeroAhead(a impl.Ahead) bool {
	return sameAhead(a, impl.Ahead{})
}

// withAhead calls use with a copy of a that has spare capacity, and fails if anything in it is another then.
func withAhead(t *testing.T, a impl.Ahead, use func(impl.Ahead)) {
	t.Helper()
	untouched(t, roomyReqs(a.Done), func(done []impl.Req) {
		untouched(t, roomyReqs(a.Wait), func(wait []impl.Req) {
			use(ahead(a.Back, done, wait))
		})
	})
}

// ownAhead is a copy of a result, over which it then writes; it fails if two lists of the result share memory.
func ownAhead(t *testing.T, a impl.Ahead) impl.Ahead {
	t.Helper()
	kept := cloneAhead(a)
	untouched(t, a.Done, func([]impl.Req) { overwrite(a.Wait, impl.Req{Client: -8}) })
	untouched(t, a.Wait, func([]impl.Req) { overwrite(a.Done, impl.Req{Client: -9}) })
	return kept
}

// push is AheadPush, held against the model and promise 38; so is keep with AheadKeep and promise 39.
func push(t *testing.T, a impl.Ahead, r impl.Req) (impl.Ahead, bool) {
	t.Helper()
	var got impl.Ahead
	ok := false
	withAhead(t, a, func(a impl.Ahead) {
		got, ok = impl.AheadPush(a, r)
		got = ownAhead(t, got)
	})
	if want, wantOk := modelPush(a, r); ok != wantOk || !sameAhead(got, want) {
		t.Fatalf("AheadPush %v\nto   %v\nis   %v %v\nwant %v %v", r, a, got, ok, want, wantOk)
	}
	if ok {
		checkP38(t, a, got, r)
	}
	return got, ok
}

func checkP38(t *testing.T, a, got impl.Ahead, r impl.Req) {
	t.Helper()
	g, code := impl.GameDo(impl.AheadGame(a), r)
	codes := impl.AheadCodes(got)
	if !sameGame(impl.AheadGame(got), g) || len(codes) == 0 || codes[len(codes)-1] != code {
		t.Fatalf("%v done ahead in %v: codes %v, game %v", r, a, codes, impl.AheadGame(got))
	}
	if !sameGame(impl.AheadSure(got), impl.AheadSure(a)) || got.Back != a.Back {
		t.Fatalf("%v done ahead in %v changes what is sure: %v", r, a, got)
	}
}

func keep(t *testing.T, a impl.Ahead, r impl.Req) (impl.Ahead, bool) {
	t.Helper()
	var got impl.Ahead
	ok := false
	withAhead(t, a, func(a impl.Ahead) {
		got, ok = impl.AheadKeep(a, r)
		got = ownAhead(t, got)
	})
	if want, wantOk := modelKeep(a, r); ok != wantOk || !sameAhead(got, want) {
		t.Fatalf("AheadKeep %v\nin   %v\nis   %v %v\nwant %v %v", r, a, got, ok, want, wantOk)
	}
	if ok {
		checkP39(t, a, got, r)
	}
	return got, ok
}

func checkP39(t *testing.T, a, got impl.Ahead, r impl.Req) {
	t.Helper()
	g, _ := impl.GameDo(impl.AheadSure(a), r)
	if !sameGame(impl.AheadSure(got), g) || !impl.AheadOk(got) {
		t.Fatalf("%v confirmed in %v: %v", r, a, got)
	}
	if len(a.Wait) > 0 && a.Wait[0] == r && (got.Back != a.Back || !sameGame(impl.AheadGame(got), impl.AheadGame(a))) {
		t.Fatalf("%v confirmed first in %v: %v", r, a, got)
	}
}

// looks holds AheadOk, AheadGame, AheadSure and AheadCodes against the model and promises 41 and 42.
func looks(t *testing.T, a impl.Ahead) (impl.Game, impl.Game, []int) {
	t.Helper()
	sure, game, codes := modelLooks(a)
	withAhead(t, a, func(a impl.Ahead) {
		if ok := impl.AheadOk(a); ok != modelAheadOk(a) {
			t.Fatalf("AheadOk is %v of %v", ok, a)
		}
		for _, x := range []struct {
			name string
			got  impl.Game
			want impl.Game
		}{{"AheadSure", impl.AheadSure(a), sure}, {"AheadGame", impl.AheadGame(a), game}} {
			if !sameGame(x.got, x.want) {
				t.Fatalf("%s of %v\nis   %v\nwant %v", x.name, a, x.got, x.want)
			}
			checkApart(t, x.name, x.got)
			overwriteGame(x.got)
		}
		got := impl.AheadCodes(a)
		if !slices.Equal(got, codes) {
			t.Fatalf("AheadCodes is %v, want %v, of %v", got, codes, a)
		}
		overwrite(got, -9)
	})
	if modelAheadOk(a) {
		checkP41P42(t, a)
	}
	return sure, game, codes
}

func overwriteGame(g impl.Game) {
	overwrite(g.Ents, impl.Ent{Client: -9})
	overwrite(g.Floor, -9)
	overwrite(g.Last, -9)
}

func checkP41P42(t *testing.T, a impl.Ahead) {
	t.Helper()
	if !sameGame(impl.AheadSure(a), impl.GameFold(a.Done)) || !sameGame(impl.AheadGame(a), impl.GameFold(slices.Concat(a.Done, a.Wait))) {
		t.Fatalf("the states of %v are no folds", a)
	}
	codes := impl.AheadCodes(a)
	if len(codes) != len(a.Wait) {
		t.Fatalf("%v has codes %v", a, codes)
	}
	if len(codes) == 0 {
		return
	}
	if _, code := impl.GameDo(impl.AheadSure(a), a.Wait[0]); codes[0] != code {
		t.Fatalf("%v has codes %v, the first is not %d", a, codes, code)
	}
}

// goodAheads is valid values, at each limit.
func goodAheads() []impl.Ahead {
	list := []impl.Ahead{{}, ahead(backMax, nil, nil), ahead(0, []impl.Req{}, []impl.Req{})}
	for i, all := range foldLists() {
		for _, cut := range []int{0, 1, i / 3, i / 2, i - 1, i} {
			if cut >= 0 && cut <= i {
				list = append(list, ahead((i*7+cut)%(backMax+1), all[:cut:cut], all[cut:]))
			}
		}
	}
	return list
}

// badAheads is values that break one rule of AheadOk each.
func badAheads() map[string]impl.Ahead {
	list := foldLists()[6]
	base := ahead(3, list[:3:3], list[3:])
	out := map[string]impl.Ahead{}
	for _, back := range []int{-1, backMax + 1, backMax + 2, 1 << 32, math.MinInt, math.MaxInt} {
		out["Back "+strconv.Itoa(back)] = ahead(back, base.Done, base.Wait)
	}
	for n, bad := range badAsks() {
		for at := range 3 {
			a := cloneAhead(base)
			a.Done[at] = bad
			out["Done "+strconv.Itoa(at)+" "+strconv.Itoa(n)] = a
			a = cloneAhead(base)
			a.Wait[at] = bad
			out["Wait "+strconv.Itoa(at)+" "+strconv.Itoa(n)] = a
		}
	}
	for _, n := range []int{folds + 1, folds + 2, 2 * folds} {
		all := append(foldLists()[folds], make([]impl.Req, n-folds)...)
		for _, cut := range []int{0, 1, folds / 2, n - folds, folds, n - 1, n} {
			out["many "+strconv.Itoa(n)+" "+strconv.Itoa(cut)] = ahead(0, all[:cut:cut], all[cut:])
		}
		out["many null "+strconv.Itoa(n)] = ahead(0, make([]impl.Req, folds), make([]impl.Req, n-folds))
	}
	return out
}
