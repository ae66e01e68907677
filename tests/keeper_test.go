package tests

import (
	"math"
	"slices"
	"strconv"
	"testing"

	"loop.example/wapentake/impl"
)

func TestLimitsOfReplicas(t *testing.T) {
	if impl.TookMax != tookMax || impl.HeardMax != heardMax {
		t.Errorf("TookMax is %d and HeardMax %d", impl.TookMax, impl.HeardMax)
	}
}

func TestP15EachReplica(t *testing.T) {
	for me := range keepers {
		r := impl.RepNew(me)
		mustBeRep(t, "new", r, impl.Rep{Me: me, View: 0, Live: true, Next: 1})
		if !impl.RepOk(r) {
			t.Errorf("not valid: %v", r)
		}
		if list := impl.RepList(r); len(list) != 0 {
			t.Errorf("replica %d has done %v", me, list)
		}
		mustBeApart(t, r, nil)
		mustBeRep(t, "new once more", impl.RepNew(me), repIn(me, 0))
	}
}

func TestP15NoReplica(t *testing.T) {
	for _, n := range []int{-1, keepers, keepers + 1, -keepers, 1 << 32, math.MinInt, math.MaxInt} {
		r := impl.RepNew(n)
		if !isZeroRep(r) {
			t.Errorf("RepNew(%d) is %v", n, r)
		}
		if impl.RepOk(r) {
			t.Errorf("RepNew(%d) is valid", n)
		}
	}
}

// allPlaces is a claim of each view and sequence number: no valid replica has taken more.
func allPlaces(r impl.Req) []impl.Claim {
	var list []impl.Claim
	for view := 0; view <= lastView; view++ {
		for seq := 1; seq <= lastSeq; seq++ {
			list = append(list, claim(seq, view, r))
		}
	}
	return list
}

// crowd is n different messages of the kinds that a replica stores.
func crowd(n int) []impl.Msg {
	var list []impl.Msg
	for i := range n {
		c := claim(1+i%lastSeq, i%(lastView+1), impl.Req{Client: 4, Num: 1 + i%numbers, Op: 2, X: 1, Y: -1})
		list = append(list, about(3+i%2, i%keepers, c))
	}
	return list
}

// busyRep has something in every list.
func busyRep() impl.Rep {
	a, b, null := claim(1, 0, joinOf(1)), claim(2, 1, joinOf(2)), claim(3, 1, impl.Req{})
	return impl.Rep{
		Me: 2, View: 1, Live: true, Next: 4, Took: []impl.Claim{a, b, null},
		Heard: msgs(yesFrom(a, 1, 2), sureFrom(a, 0, 1, 2), yesFrom(b, 2), []impl.Msg{turnOf(1, vote(2, a)), turnOf(2, vote(0))}),
		Done:  []impl.Claim{a, claim(4, 0, impl.Req{})},
	}
}

// goodReps is valid replicas, at each limit.
func goodReps() map[string]impl.Rep {
	list := map[string]impl.Rep{
		"busy": busyRep(), "lowest": {Next: 1}, "highest": {Me: keepers - 1, View: lastView, Live: true, Next: lastSeq + 1},
	}
	add := func(name string, change func(r *impl.Rep)) {
		r := busyRep()
		change(&r)
		list[name] = r
	}
	add("not live", func(r *impl.Rep) { r.Live = false })
	add("all places taken", func(r *impl.Rep) { r.Took = allPlaces(joinOf(1)) })
	add("all places taken by null", func(r *impl.Rep) { r.Took = allPlaces(impl.Req{}) })
	add("claims taken in another order", func(r *impl.Rep) { slices.Reverse(r.Took) })
	add("claims taken of later views", func(r *impl.Rep) { r.View = 0 })
	add("one number in two views", func(r *impl.Rep) { r.Took = []impl.Claim{claim(2, 3, joinOf(1)), claim(2, 1, joinOf(1))} })
	add("HeardMax messages", func(r *impl.Rep) { r.Heard = crowd(heardMax) })
	add("one message twice", func(r *impl.Rep) { r.Heard = append(r.Heard, r.Heard...) })
	add("HeardMax times one message", func(r *impl.Rep) { r.Heard = slices.Repeat([]impl.Msg{turnOf(3, vote(1))}, heardMax) })
	add("all done", func(r *impl.Rep) { r.Done = allPlaces(joinOf(3))[:lastSeq] })
	add("done of views that go down", func(r *impl.Rep) { r.Done = []impl.Claim{claim(1, lastView, joinOf(1)), claim(5, 0, joinOf(2))} })
	add("done and not taken", func(r *impl.Rep) { r.Took = nil })
	for _, m := range goodMsgs() {
		if m.msg.Kind >= 3 && m.msg.Kind <= 5 {
			add("heard "+m.name, func(r *impl.Rep) { r.Heard = append(r.Heard, m.msg) })
		}
	}
	for view := 0; view <= lastView; view++ {
		add("view "+strconv.Itoa(view), func(r *impl.Rep) { r.View = view })
	}
	for next := 1; next <= lastSeq+1; next++ {
		add("next "+strconv.Itoa(next), func(r *impl.Rep) { r.Next = next })
	}
	return list
}

// badReps is replicas that each break one rule of RepOk.
func badReps() map[string]impl.Rep {
	list := map[string]impl.Rep{"zero": {}}
	add := func(name string, change func(r *impl.Rep)) {
		r := busyRep()
		change(&r)
		list[name] = r
	}
	for _, n := range []int{-1, math.MinInt, math.MaxInt, 1 << 32, keepers, keepers + 2, -2} {
		add("me "+strconv.Itoa(n), func(r *impl.Rep) { r.Me = n })
	}
	for _, n := range []int{-1, math.MinInt, math.MaxInt, 1 << 32, lastView + 1, lastView + 2} {
		add("view "+strconv.Itoa(n), func(r *impl.Rep) { r.View = n })
	}
	for _, n := range []int{-1, math.MinInt, math.MaxInt, 1 << 32, 0, lastSeq + 2, lastSeq + 3} {
		add("next "+strconv.Itoa(n), func(r *impl.Rep) { r.Next = n })
	}
	addBadTook(add)
	addBadHeard(add)
	for name, claims := range badClaimLists() {
		add("done: "+name, func(r *impl.Rep) { r.Done = claims })
		add("done after another: "+name, func(r *impl.Rep) { r.Done = append([]impl.Claim{claim(1, 0, joinOf(4))}, claims...) })
	}
	return list
}

func addBadTook(add func(name string, change func(r *impl.Rep))) {
	for name, claims := range badClaimLists() {
		for _, c := range claims {
			if !modelClaimOk(c) {
				add("took first: "+name, func(r *impl.Rep) { r.Took = append([]impl.Claim{c}, r.Took...) })
				add("took last: "+name, func(r *impl.Rep) { r.Took = append(r.Took, c) })
			}
		}
	}
	c := busyRep().Took[1]
	add("took twice", func(r *impl.Rep) { r.Took = append(r.Took, c) })
	add("took another request there", func(r *impl.Rep) { r.Took = append(r.Took, claim(c.Seq, c.View, joinOf(4))) })
	add("took null there", func(r *impl.Rep) { r.Took = append(r.Took, claim(c.Seq, c.View, impl.Req{})) })
	add("took another request there first", func(r *impl.Rep) {
		r.Took = append([]impl.Claim{claim(c.Seq, c.View, joinOf(4))}, r.Took...)
	})
	// There are fewer places than TookMax: so many claims are of one place twice.
	all := allPlaces(joinOf(1))
	for _, n := range []int{len(all) + 1, tookMax - 1, tookMax, tookMax + 1, tookMax + 2, 3 * tookMax} {
		add("took "+strconv.Itoa(n), func(r *impl.Rep) { r.Took = slices.Repeat(all, 4)[:n] })
		add("took one "+strconv.Itoa(n)+" times", func(r *impl.Rep) { r.Took = slices.Repeat(all[:1], n) })
	}
}

func addBadHeard(add func(name string, change func(r *impl.Rep))) {
	good := busyRep().Heard
	for _, g := range goodMsgs() {
		if g.msg.Kind < 3 || g.msg.Kind > 5 {
			add("heard first: "+g.name, func(r *impl.Rep) { r.Heard = append([]impl.Msg{g.msg}, good...) })
			add("heard last: "+g.name, func(r *impl.Rep) { r.Heard = append(slices.Clone(good), g.msg) })
		}
	}
	for i, m := range badStored() {
		add("heard first: invalid "+strconv.Itoa(i), func(r *impl.Rep) { r.Heard = append([]impl.Msg{m}, good...) })
		add("heard last: invalid "+strconv.Itoa(i), func(r *impl.Rep) { r.Heard = append(slices.Clone(good), m) })
	}
	add("heard 121", func(r *impl.Rep) { r.Heard = crowd(heardMax + 1) })
	add("heard 240", func(r *impl.Rep) { r.Heard = crowd(2 * heardMax) })
	add("heard one 121 times", func(r *impl.Rep) { r.Heard = slices.Repeat(good[:1], heardMax+1) })
}

// badStored is invalid messages of the kinds that a replica stores.
func badStored() []impl.Msg {
	var list []impl.Msg
	for kind := 3; kind <= 4; kind++ {
		for _, r := range badAsks() {
			list = append(list, about(kind, 1, claim(1, 0, r)))
		}
		list = append(list, about(kind, 1, claim(0, 0, joinOf(1))), about(kind, keepers, claim(1, 0, joinOf(1))), about(kind, 0, claim(1, lastView+1, joinOf(1))))
	}
	for _, claims := range badClaimLists() {
		list = append(list, turnOf(1, vote(1, claims...)))
	}
	x := turnOf(1, vote(1))
	x.Seq = 1
	return append(list, x, turnOf(-1, vote(0)), turnOf(lastView+1, vote(0)), turnOf(1, vote(keepers)), impl.Msg{})
}

func TestP15ValidReplicas(t *testing.T) {
	for name, r := range goodReps() {
		before := cloneRep(r)
		if !impl.RepOk(r) {
			t.Errorf("%s: not valid: %v", name, r)
		}
		if !modelRepOk(r) {
			t.Errorf("%s: the model finds it not valid: %v", name, r)
		}
		mustBeRep(t, name, r, before)
	}
}

func TestP16InvalidReplicas(t *testing.T) {
	m := turnOf(3, vote(1))
	for name, r := range badReps() {
		if impl.RepOk(r) {
			t.Errorf("%s: valid: %v", name, r)
		}
		for _, said := range [][]impl.Msg{nil, {m}} {
			if got, sent := hear(t, r, m, said); !isZeroRep(got) || len(sent) > 0 {
				t.Errorf("%s: RepHear is %v, sent %v", name, got, sent)
			}
			if got, sent := turn(t, r, said); !isZeroRep(got) || len(sent) > 0 {
				t.Errorf("%s: RepTurn is %v, sent %v", name, got, sent)
			}
		}
		if list := impl.RepList(r); list != nil {
			t.Errorf("%s: RepList is %v", name, list)
		}
	}
}

func TestP18InvalidReplicaInTheLastView(t *testing.T) {
	r := repIn(0, lastView)
	r.Next = 0
	if got, sent := turn(t, r, nil); !isZeroRep(got) || len(sent) > 0 {
		t.Errorf("RepTurn is %v, sent %v", got, sent)
	}
}
