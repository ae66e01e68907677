package tests

import (
	"fmt"
	"math"
	"slices"
	"testing"

	"loop.example/wapentake/impl"
)

// checkP29 has each number of rounds be one round more than the one before.
func checkP29(t *testing.T, w impl.World) {
	t.Helper()
	before := calm(t, w, 0)
	mustBeWorld(t, "no rounds", before, w)
	for n := 1; n <= calmMax; n++ {
		after := calm(t, w, n)
		if impl.WorldOk(before) {
			mustBeWorld(t, fmt.Sprint(n, " rounds, and one more than before"), after, impl.WorldCalm(before, 1))
		}
		before = after
	}
}

func TestP29EachNumberOfRounds(t *testing.T) {
	for bad := range keepers {
		checkP29(t, impl.WorldNew(bad))
		p := newRun(t, bad)
		p.ask(joinOf(1), joinOf(2))
		checkP29(t, p.w)
		for _, k := range backups(bad) {
			p.turn(k)
		}
		checkP29(t, p.w)
	}
	checkP29(t, twoOffers(t).w)
	checkP29(t, twoLeads(t).w)
	checkP29(t, busyWorld())
}

func TestP29NoNumberOfRounds(t *testing.T) {
	w := calm(t, worldWith(1, askOf(joinOf(1))), 1)
	for _, n := range []int{-1, -2, calmMax + 1, calmMax + 2, 100, 1 << 32, math.MinInt, math.MaxInt} {
		mustBeZeroWorld(t, fmt.Sprint(n, " rounds"), calm(t, w, n))
	}
}

// TestP29OneRound says which messages are added in one round, in order: a message that is added is heard in the same round, by replica 0 first.
func TestP29OneRound(t *testing.T) {
	a := claim(1, 0, joinOf(1))
	got := calm(t, worldWith(3, askOf(joinOf(1))), 1)
	want := []impl.Msg{askOf(joinOf(1)), offer(a), about(3, 1, a), about(3, 2, a), about(4, 2, a), about(4, 0, a), about(4, 1, a)}
	if !slices.EqualFunc(got.Said, want, equalMsg) {
		t.Fatalf("sent %v, want %v", got.Said, want)
	}
	mustHaveListed(t, "one round", got, joinOf(1))
	mustBeRep(t, "Bad hears nothing", got.Reps[3], repIn(3, 0))
	mustBeWorld(t, "one round more", calm(t, got, 1), got)
}

// TestP29SecondRound has messages that come too early in the first round, and help in the second.
func TestP29SecondRound(t *testing.T) {
	p := newRun(t, 1)
	p.ask(joinOf(1), joinOf(2))
	p.fake(offer(claim(1, 1, joinOf(2))))
	p.turn(0, 2, 3)
	p.fake(leadOf(1, 1, vote(0), vote(2), vote(3)))
	first := calm(t, p.w, 1)
	mustTake(t, "the offer came before the lead", first.Reps[2])
	second := calm(t, p.w, 2)
	mustTake(t, "the offer comes again", second.Reps[2], claim(1, 1, joinOf(2)))
	checkP29(t, p.w)
}

func TestP29SaidMax(t *testing.T) {
	for _, bad := range []int{0, 3} {
		for _, n := range []int{0, 1, 2, 3, 4, 7, 10, 12, 20} {
			w := fullWorld(bad, n)
			checkP29(t, w)
			got := calm(t, w, calmMax)
			checkP23(t, got)
			checkPlayed(t, got)
			if bad == 3 && len(got.Said) != saidMax {
				t.Errorf("room for %d, and %d were sent", n, len(got.Said))
			}
		}
	}
	// With no room for the offer, the leader has not taken the request either.
	got := calm(t, fullWorld(3, 0), calmMax)
	mustBeWorld(t, "no room", got, fullWorld(3, 0))
	got = calm(t, fullWorld(3, 1), calmMax)
	if got.Reps[0].Next != 2 || len(got.Reps[1].Took) != 0 {
		t.Errorf("room for one offer: %v", got.Reps)
	}
}

// TestP24SaidMax is a run that fills the world: what has no room is not said, and the rest goes on.
func TestP24SaidMax(t *testing.T) {
	for bad := range keepers {
		w := played(t, bad, askEvents(playMax))
		got := calm(t, w, calmMax)
		checkP23(t, got)
		if bad > 0 && len(got.Said) != saidMax {
			t.Errorf("Bad is %d: %d messages", bad, len(got.Said))
		}
		list := append(askEvents(playMax-8), turnEvent((bad+1)%keepers), turnEvent((bad+2)%keepers), turnEvent((bad+3)%keepers))
		w = played(t, bad, list)
		got = calm(t, w, calmMax)
		checkP23(t, got)
		checkP29(t, w)
	}
}

func TestP27(t *testing.T) {
	asks := []impl.Req{joinOf(1), {Client: 1, Num: 2, Op: 3}, {Client: 4, Num: numbers, Op: 1}, {Client: 1, Num: 1, Op: 2, X: 1, Y: 1}, {Client: 2, Num: 7, Op: 5, X: 1, Y: 9}}
	for bad := 1; bad < keepers; bad++ {
		for n := 0; n <= lastSeq; n++ {
			for shift := range lastSeq {
				var list []impl.Event
				var want []impl.Req
				for i := range n {
					r := asks[(i+shift)%len(asks)]
					want, list = append(want, r), append(list, askEvent(r))
				}
				w := calm(t, played(t, bad, list), 2)
				mustHaveListed(t, fmt.Sprint("Bad is ", bad), w, want...)
				checkP23(t, w)
				checkP30(t, w)
				for k := range keepers {
					if k != bad {
						mustPlayGame(t, w, k, impl.GameFold(want))
					}
				}
			}
		}
	}
}

// TestP27AskedTwice has events that are not possible among those of the clients, and more requests than sequence numbers.
func TestP27AskedTwice(t *testing.T) {
	for bad := 1; bad < keepers; bad++ {
		list := []impl.Event{askEvent(joinOf(2)), askEvent(joinOf(2)), askEvent(impl.Req{}), askEvent(joinOf(1)), askEvent(joinOf(2))}
		mustHaveListed(t, "asked twice", calm(t, played(t, bad, list), 2), joinOf(2), joinOf(1))
		w := calm(t, played(t, bad, askEvents(lastSeq+1)), 2)
		mustHaveListed(t, "one too many", w, someAsks(lastSeq)...)
	}
}

// TestP27EachLeader has Bad lead the first view, and the next one lead the second.
func TestP27EachLeader(t *testing.T) {
	for n := 0; n <= lastSeq; n++ {
		p := newRun(t, 0)
		p.ask(someAsks(n)...)
		mustHaveListed(t, "Bad leads and is silent", p.end())
		p.turn(1, 2, 3)
		mustHaveListed(t, "the second view", p.end(), someAsks(n)...)
	}
}
