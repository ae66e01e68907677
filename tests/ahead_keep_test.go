package tests

import (
	"slices"
	"testing"

	"loop.example/wapentake/impl"
)

func mustKeep(t *testing.T, name string, a impl.Ahead, r impl.Req, want impl.Ahead) {
	t.Helper()
	if got, ok := keep(t, a, r); !ok || !sameAhead(got, want) {
		t.Fatalf("%s: %v confirmed in %v\nis   %v %v\nwant %v", name, r, a, got, ok, want)
	}
}

func mustNotKeep(t *testing.T, name string, a impl.Ahead, r impl.Req) {
	t.Helper()
	if got, ok := keep(t, a, r); ok || !sameAhead(got, a) {
		t.Fatalf("%s: %v confirmed in %v\nis %v %v", name, r, a, got, ok)
	}
}

func TestP39Cases(t *testing.T) {
	q := mustReqs(t, "1 1 join 0 0", "1 2 take 0 0", "2 1 join 0 0", "2 2 move 0 1")
	a, b, c, d, null := q[0], q[1], q[2], q[3], impl.Req{}
	list := func(list ...impl.Req) []impl.Req { return list }
	for _, x := range []struct {
		name string
		from impl.Ahead
		r    impl.Req
		want impl.Ahead
	}{
		{"first", ahead(4, nil, list(a, b, c)), a, ahead(4, list(a), list(b, c))},
		{"only one", ahead(4, list(d), list(a)), a, ahead(4, list(d, a), nil)},
		{"second", ahead(4, list(d), list(a, b, c)), b, ahead(5, list(d, b), list(a, c))},
		{"last", ahead(0, nil, list(a, b, c)), c, ahead(1, list(c), list(a, b))},
		{"twice, first", ahead(4, nil, list(a, b, a)), a, ahead(4, list(a), list(b, a))},
		{"twice, one behind the other", ahead(4, nil, list(a, a)), a, ahead(4, list(a), list(a))},
		{"twice, later", ahead(4, nil, list(b, a, c, a, d)), a, ahead(5, list(a), list(b, c, a, d))},
		{"not there", ahead(4, list(a), list(b, c)), d, ahead(5, list(a, d), list(b, c))},
		{"done already", ahead(4, list(a), list(b, c)), a, ahead(5, list(a, a), list(b, c))},
		{"nothing ahead", ahead(4, list(a), nil), b, ahead(4, list(a, b), nil)},
		{"nothing at all", impl.Ahead{}, b, ahead(0, list(b), nil)},
		{"nothing ahead, BackMax", ahead(backMax, nil, nil), b, ahead(backMax, list(b), nil)},
		{"null, not there", ahead(4, list(a), list(b, c)), null, ahead(5, list(a, null), list(b, c))},
		{"null, nothing ahead", ahead(4, list(a), nil), null, ahead(4, list(a, null), nil)},
		{"null, first", ahead(4, nil, list(null, b, null)), null, ahead(4, list(null), list(b, null))},
		{"null, later", ahead(4, nil, list(b, null, null)), null, ahead(5, list(null), list(b, null))},
		{"null before it", ahead(4, nil, list(null, b)), b, ahead(5, list(b), list(null))},
	} {
		mustKeep(t, x.name, x.from, x.r, x.want)
	}
}

// TestP39OneFieldOff has requests that differ from one that was done ahead in one field: they are not that one.
func TestP39OneFieldOff(t *testing.T) {
	r := impl.Req{Client: 2, Num: 7, Op: 5, X: 3, Y: 4}
	for _, other := range []impl.Req{
		{Client: 3, Num: 7, Op: 5, X: 3, Y: 4}, {Client: 2, Num: 8, Op: 5, X: 3, Y: 4}, {Client: 2, Num: 7, Op: 5, X: 1, Y: 4}, {Client: 2, Num: 7, Op: 5, X: 3, Y: 5},
	} {
		mustKeep(t, "first", ahead(0, nil, []impl.Req{r}), other, ahead(1, []impl.Req{other}, []impl.Req{r}))
		mustKeep(t, "second", ahead(0, nil, []impl.Req{r, other}), other, ahead(1, []impl.Req{other}, []impl.Req{r}))
	}
	join, take := joinOf(1), impl.Req{Client: 1, Num: 1, Op: 3}
	mustKeep(t, "operation", ahead(0, nil, []impl.Req{join}), take, ahead(1, []impl.Req{take}, []impl.Req{join}))
}

func TestP39BackMax(t *testing.T) {
	r, s := joinOf(1), joinOf(2)
	for back := range backMax + 1 {
		next := min(back+1, backMax)
		mustKeep(t, "later", ahead(back, nil, []impl.Req{r, s}), s, ahead(next, []impl.Req{s}, []impl.Req{r}))
		mustKeep(t, "not there", ahead(back, nil, []impl.Req{r}), s, ahead(next, []impl.Req{s}, []impl.Req{r}))
		mustKeep(t, "null", ahead(back, nil, []impl.Req{r}), impl.Req{}, ahead(next, make([]impl.Req, 1), []impl.Req{r}))
		mustKeep(t, "first", ahead(back, nil, []impl.Req{r, s}), r, ahead(back, []impl.Req{r}, []impl.Req{s}))
		mustKeep(t, "nothing ahead", ahead(back, []impl.Req{r}, nil), s, ahead(back, []impl.Req{r, s}, nil))
	}
}

// TestP39UpToBackMax counts from none to one more than is counted, without an end for lack of room.
func TestP39UpToBackMax(t *testing.T) {
	for want, a := 1, ahead(0, nil, []impl.Req{joinOf(1)}); want <= backMax+2; want++ {
		next, ok := keep(t, a, joinOf(2))
		if !ok || next.Back != min(want, backMax) {
			t.Fatalf("rollback %d: %v", want, next)
		}
		a = ahead(next.Back, nil, next.Wait)
	}
}

// TestP39FoldMax has no room, with each number of confirmed requests: what was done ahead can be confirmed, and nothing else.
func TestP39FoldMax(t *testing.T) {
	stranger := impl.Req{Client: 4, Num: 30, Op: 5, X: 4, Y: 9}
	var all []impl.Req
	for i := range folds {
		all = append(all, impl.Req{Client: 1 + i%clients, Num: 1 + i/clients, Op: 2, X: 1})
	}
	for done := range folds + 1 {
		a := ahead(7, all[:done:done], all[done:])
		mustNotKeep(t, "not there", a, stranger)
		mustNotKeep(t, "null", a, impl.Req{})
		if done > 0 {
			mustNotKeep(t, "done already", a, all[0])
		}
		for i, r := range a.Wait {
			got, ok := keep(t, a, r)
			if !ok || len(got.Done) != done+1 || len(got.Wait) != folds-done-1 || got.Back != 7+min(i, 1) {
				t.Fatalf("%d done, %v confirmed: %v %v", done, r, got, ok)
			}
		}
		if done < folds {
			room := ahead(7, a.Done, a.Wait[1:])
			got, ok := keep(t, room, stranger)
			if !ok || len(got.Done)+len(got.Wait) != folds {
				t.Fatalf("%d done, the last place: %v %v", done, got, ok)
			}
			mustNotKeep(t, "no place behind it", got, stranger)
		}
	}
}

func TestP39BadRequests(t *testing.T) {
	list := foldLists()[6]
	for _, a := range []impl.Ahead{{}, ahead(backMax, list[:3:3], list[3:]), ahead(0, nil, list), ahead(1, list, nil), ahead(1, nil, foldLists()[folds])} {
		for _, bad := range badAsks() {
			mustNotKeep(t, "bad request", a, bad)
		}
	}
}

func TestP39Invalid(t *testing.T) {
	for name, a := range badAheads() {
		list := []impl.Req{joinOf(1), {}, {Client: 5}}
		if len(a.Wait) > 0 {
			list = append(list, a.Wait[0], a.Wait[len(a.Wait)-1])
		}
		for _, r := range list {
			if got, ok := keep(t, a, r); ok || !isZeroAhead(got) {
				t.Fatalf("%s: %v confirmed: %v %v", name, r, got, ok)
			}
		}
	}
}

// TestP39EachOfThose confirms each request that is there, and one that is not.
func TestP39EachOfThose(t *testing.T) {
	for _, a := range goodAheads() {
		list := append(slices.Clone(a.Wait), a.Done...)
		for _, r := range append(list, impl.Req{}, impl.Req{Client: 3, Num: 30, Op: 3}) {
			keep(t, a, r)
		}
	}
}
