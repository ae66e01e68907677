package tests

import (
	"fmt"
	"slices"
	"testing"

	"loop.example/wapentake/impl"
)

func mustAgree(t *testing.T, name string, w impl.World, want bool) {
	t.Helper()
	before := cloneWorld(w)
	if got := impl.WorldAgree(w); got != want || modelAgree(w) != want {
		t.Fatalf("%s: WorldAgree is %v, want %v, the model says %v: %v", name, got, want, modelAgree(w), w)
	}
	mustBeWorld(t, name, w, before)
}

// withDone is a world in which clients sent the requests of three clients, and the replicas have done these claims.
func withDone(bad int, done ...[]impl.Claim) impl.World {
	w := worldWith(bad, asksFrom(joinOf(1), joinOf(2), joinOf(3))...)
	for k, list := range done {
		w.Reps[k].Done = slices.Clone(list)
	}
	return w
}

func TestP28OneReplicaNew(t *testing.T) {
	a, b, null := claim(1, 0, joinOf(1)), claim(2, 1, joinOf(2)), claim(3, 1, impl.Req{})
	for bad := range keepers {
		for _, w := range []impl.World{
			withDone(bad),
			withDone(bad, []impl.Claim{a, b, null}, []impl.Claim{a, b, null}, []impl.Claim{a, b, null}, []impl.Claim{a, b, null}),
			withDone(bad, []impl.Claim{a}, []impl.Claim{a, b}, []impl.Claim{b}, []impl.Claim{null}),
		} {
			mustAgree(t, "before", w, true)
			for k := range keepers {
				next := cloneWorld(w)
				next.Reps[k] = impl.RepNew(k)
				mustAgree(t, "one is new", next, true)
			}
		}
	}
}

// TestP28NewAfterPlay has the replicas of a world that was played start again, one, two and all of them.
func TestP28NewAfterPlay(t *testing.T) {
	for bad := range keepers {
		p := twoLeads(t)
		if bad != 1 {
			p = newRun(t, bad)
			p.ask(joinOf(1), joinOf(2))
		}
		w := calm(t, p.w, calmMax)
		mustAgree(t, "before", w, true)
		for bits := range 1 << keepers {
			next := cloneWorld(w)
			for k := range keepers {
				if bits>>k&1 == 1 {
					next.Reps[k] = impl.RepNew(k)
				}
			}
			mustAgree(t, fmt.Sprintf("new are %b", bits), next, true)
		}
	}
}

// TestP28DoneDiffers has two replicas that differ at one sequence number: they agree only if one of them is Bad.
func TestP28DoneDiffers(t *testing.T) {
	for seq := 1; seq <= lastSeq; seq++ {
		for bad := range keepers {
			for x := range keepers {
				for y := range x {
					for _, r := range []impl.Req{joinOf(2), {}} {
						var done [keepers][]impl.Claim
						done[x] = []impl.Claim{claim(seq, 0, joinOf(1))}
						done[y] = []impl.Claim{claim(seq, 0, r)}
						w := withDone(bad, done[:]...)
						mustAgree(t, "two differ", w, bad == x || bad == y)
						w.Reps[y].Done[0].Req = joinOf(1)
						mustAgree(t, "two agree", w, true)
						w.Reps[y].Done[0].View = 3
						mustAgree(t, "two agree, in other views", w, true)
						w.Reps[y].Done[0] = claim(1+seq%lastSeq, 0, r)
						mustAgree(t, "another sequence number", w, true)
					}
				}
			}
		}
	}
}

func TestP28DoneDiffersInOneField(t *testing.T) {
	r := impl.Req{Client: 2, Num: 3, Op: 5, X: 3, Y: 4}
	for _, q := range []impl.Req{{Client: 1, Num: 3, Op: 5, X: 3, Y: 4}, {Client: 2, Num: 4, Op: 5, X: 3, Y: 4}, {Client: 2, Num: 3, Op: 5, X: 1, Y: 4}, {Client: 2, Num: 3, Op: 5, X: 3, Y: 5}} {
		w := worldWith(3, asksFrom(r, q)...)
		w.Reps[0].Done = []impl.Claim{claim(4, 0, r)}
		w.Reps[2].Done = []impl.Claim{claim(4, 0, q)}
		mustAgree(t, "two requests", w, false)
		w.Reps[2].Done[0].Req = r
		mustAgree(t, "one request", w, true)
	}
	w := worldWith(3, asksFrom(joinOf(1), impl.Req{Client: 1, Num: 1, Op: 3})...)
	w.Reps[0].Done = []impl.Claim{claim(4, 0, joinOf(1))}
	w.Reps[2].Done = []impl.Claim{claim(4, 0, impl.Req{Client: 1, Num: 1, Op: 3})}
	mustAgree(t, "two operations", w, false)
}

// TestP28DoneDiffersAmongOthers has replicas that agree about all but the last sequence number, or the middle one.
func TestP28DoneDiffersAmongOthers(t *testing.T) {
	all := []impl.Claim{claim(1, 0, joinOf(1)), claim(2, 0, joinOf(2)), claim(3, 0, impl.Req{}), claim(4, 1, joinOf(3)), claim(5, 1, joinOf(1))}
	for bad := range keepers {
		mustAgree(t, "all agree", withDone(bad, all, all, all, all), true)
		for k := range keepers {
			for i := range all {
				w := withDone(bad, all, all, all, all)
				w.Reps[k].Done[i].Req = impl.Req{}
				mustAgree(t, "one is null", w, k == bad || i == 2)
				w.Reps[k].Done[i].Req = joinOf(1 + all[i].Req.Client%3)
				mustAgree(t, "one is another", w, k == bad)
			}
		}
	}
}

func TestP28DoneAndNotAsked(t *testing.T) {
	for bad := range keepers {
		for k := range keepers {
			for seq := 1; seq <= lastSeq; seq++ {
				w := withDone(bad)
				w.Reps[k].Done = []impl.Claim{claim(seq, 0, joinOf(4))}
				mustAgree(t, "no client sent it", w, k == bad)
				w.Said = append(w.Said, offer(claim(seq, 0, joinOf(4))))
				mustAgree(t, "it was offered only", w, k == bad)
				w.Said = append(w.Said, askOf(joinOf(4)))
				mustAgree(t, "a client sent it", w, true)
				w.Said = nil
				mustAgree(t, "nothing was sent", w, k == bad)
				w.Reps[k].Done[0].Req = impl.Req{}
				mustAgree(t, "null", w, true)
			}
			done := []impl.Claim{claim(1, 0, joinOf(1)), claim(2, 0, impl.Req{}), claim(3, 0, joinOf(4))}
			w := withDone(bad)
			w.Reps[k].Done = done
			mustAgree(t, "the last was not sent", w, k == bad)
		}
	}
}

func mustPlayGame(t *testing.T, w impl.World, keeper int, want impl.Game) {
	t.Helper()
	var got impl.Game
	ownWorld(t, w, func(arg impl.World) impl.World {
		got = impl.WorldGame(arg, keeper)
		return impl.World{}
	})
	if !sameGame(got, want) || !sameGame(got, modelGame(w, keeper)) {
		t.Fatalf("replica %d: WorldGame is %v, want %v, the model says %v", keeper, got, want, modelGame(w, keeper))
	}
}

func TestP30Cases(t *testing.T) {
	a, b, d := joinOf(1), impl.Req{Client: 1, Num: 2, Op: 3}, impl.Req{Client: 1, Num: 3, Op: 2, X: 1, Y: 1}
	cases := []struct {
		name string
		done []impl.Claim
		want []impl.Req
	}{
		{"nothing", nil, nil},
		{"one", []impl.Claim{claim(1, 0, a)}, []impl.Req{a}},
		{"three", []impl.Claim{claim(1, 0, a), claim(2, 1, b), claim(3, 2, d)}, []impl.Req{a, b, d}},
		{"a gap at 1", []impl.Claim{claim(2, 0, a)}, nil},
		{"a gap at 2", []impl.Claim{claim(1, 0, a), claim(3, 0, b)}, []impl.Req{a}},
		{"a gap at 4", []impl.Claim{claim(1, 0, a), claim(2, 0, b), claim(3, 0, d), claim(5, 0, joinOf(2))}, []impl.Req{a, b, d}},
		{"null between", []impl.Claim{claim(1, 0, a), claim(2, 0, impl.Req{}), claim(3, 0, b)}, []impl.Req{a, b}},
		{"a request that fails", []impl.Claim{claim(1, 0, b), claim(2, 0, a), claim(3, 0, d)}, []impl.Req{b, a, d}},
		{"no client sent it", []impl.Claim{claim(1, 0, joinOf(4))}, []impl.Req{joinOf(4)}},
		{"all", []impl.Claim{claim(1, 0, a), claim(2, 0, b), claim(3, 0, d), claim(4, 0, joinOf(2)), claim(5, 0, joinOf(3))}, []impl.Req{a, b, d, joinOf(2), joinOf(3)}},
	}
	for _, x := range cases {
		want := impl.GameFold(x.want)
		for k := range keepers {
			for bad := range keepers {
				w := withDone(bad)
				w.Reps[k].Done = x.done
				mustPlayGame(t, w, k, want)
				mustPlayGame(t, w, (k+1)%keepers, impl.GameNew())
			}
		}
	}
}

func TestP30NoReplica(t *testing.T) {
	w := withDone(1, []impl.Claim{claim(1, 0, joinOf(1))})
	for _, k := range notReplicas() {
		if g := impl.WorldGame(w, k); !isZeroGame(g) {
			t.Errorf("WorldGame of %d is %v", k, g)
		}
	}
}

// checkP30 takes each two correct replicas, of which one continues the history of the other.
func checkP30(t *testing.T, w impl.World) {
	t.Helper()
	for x := range keepers {
		for y := range keepers {
			short, long := impl.RepList(w.Reps[x]), impl.RepList(w.Reps[y])
			if x == w.Bad || y == w.Bad || len(short) > len(long) {
				continue
			}
			if !slices.Equal(long[:len(short)], short) {
				t.Fatalf("replica %d has done %v, and %d has done %v", x, short, y, long)
			}
			g := impl.WorldGame(w, x)
			for _, r := range long[len(short):] {
				g, _ = impl.GameDo(g, r)
			}
			if got := impl.WorldGame(w, y); !sameGame(got, g) {
				t.Fatalf("replica %d has the game %v, and %d leads to %v", y, got, x, g)
			}
		}
	}
}

// TestP30OneIsLate has replicas of which each has done one request more than the next.
func TestP30OneIsLate(t *testing.T) {
	a, b, d := joinOf(1), impl.Req{Client: 1, Num: 2, Op: 3}, impl.Req{Client: 1, Num: 3, Op: 2, X: 1, Y: 0}
	for bad := 1; bad < keepers; bad++ {
		p := newRun(t, bad)
		p.ask(a, b, d)
		others := slices.DeleteFunc([]int{0, 1, 2, 3}, func(k int) bool { return k == bad })
		for i, r := range []impl.Req{a, b, d} {
			c := claim(i+1, 0, r)
			p.hear(askOf(r), 0)
			p.hear(offer(c), others[1:]...)
			p.hearAll(yesFrom(c, others[1:]...), others...)
			p.hearAll(sureFrom(c, others...), others[i:]...)
			checkP30(t, p.w)
		}
		for i, k := range others {
			if n := len(impl.RepList(p.w.Reps[k])); n != i+1 {
				t.Fatalf("replica %d has done %d, want %d", k, n, i+1)
			}
		}
		after := p.end()
		checkP30(t, after)
		mustHaveListed(t, "all is heard", after, a, b, d)
	}
}
