package tests

import (
	"math"
	"slices"
	"strconv"
	"testing"

	"loop.example/wapentake/impl"
)

// sumMax is the largest checksum as the document gives it.
const sumMax = 4294967295

func reply(from, num, code, sum int) impl.Reply {
	return impl.Reply{From: from, Num: num, Code: code, Sum: sum}
}

func player(r impl.Req, replies ...impl.Reply) impl.Player {
	return impl.Player{Req: r, Replies: replies}
}

// numbered is a valid request of client 2 with that number.
func numbered(num int) impl.Req {
	return impl.Req{Client: 2, Num: num, Op: 3}
}

func samePlayer(a, b impl.Player) bool {
	return a.Req == b.Req && slices.Equal(a.Replies, b.Replies)
}

func isZeroPlayer(p impl.Player) bool {
	return samePlayer(p, impl.Player{})
}

// withPlayer calls use with a copy of p that has spare capacity, and fails if anything in it is another then.
func withPlayer(t *testing.T, p impl.Player, use func(impl.Player)) {
	t.Helper()
	untouched(t, roomy(p.Replies, reply(-7, -7, -7, -7)), func(list []impl.Reply) {
		use(player(p.Req, list...))
	})
}

// ownPlayer is a copy of a result, over which it then writes.
func ownPlayer(p impl.Player) impl.Player {
	kept := player(p.Req, slices.Clone(p.Replies)...)
	overwrite(p.Replies, reply(-9, -9, -9, -9))
	return kept
}

// playerHear is PlayerHear, held against the model and promise 47; so are the next ones with the functions of their names and the promises 48, 49 and 50.
func playerHear(t *testing.T, p impl.Player, r impl.Reply) (impl.Player, bool) {
	t.Helper()
	var got impl.Player
	ok := false
	withPlayer(t, p, func(p impl.Player) {
		got, ok = impl.PlayerHear(p, r)
		got = ownPlayer(got)
	})
	if want, wantOk := modelPlayerHear(p, r); ok != wantOk || !samePlayer(got, want) {
		t.Fatalf("PlayerHear %v\nin   %v\nis   %v %v\nwant %v %v", r, p, got, ok, want, wantOk)
	}
	if ok {
		checkP47(t, p, got, r)
	}
	return got, ok
}

func checkP47(t *testing.T, p, got impl.Player, r impl.Reply) {
	t.Helper()
	if want := append(slices.Clone(p.Replies), r); !impl.PlayerOk(got) || got.Req != p.Req || !slices.Equal(got.Replies, want) {
		t.Fatalf("%v heard in %v: %v", r, p, got)
	}
	if again, ok := impl.PlayerHear(got, r); ok || !samePlayer(again, got) {
		t.Fatalf("%v heard again in %v: %v %v", r, got, again, ok)
	}
	before, sure := impl.PlayerSure(p)
	after, still := impl.PlayerSure(got)
	if sure && (!still || len(got.Replies) <= 3 && after != before) {
		t.Fatalf("%v is sure of %v, and with %v of %v %v", p, before, r, after, still)
	}
}

func playerSure(t *testing.T, p impl.Player) (impl.Reply, bool) {
	t.Helper()
	var got impl.Reply
	ok := false
	withPlayer(t, p, func(p impl.Player) { got, ok = impl.PlayerSure(p) })
	if want, wantOk := modelPlayerSure(p); ok != wantOk || got != want {
		t.Fatalf("PlayerSure of %v\nis   %v %v\nwant %v %v", p, got, ok, want, wantOk)
	}
	if ok && (got.Num != p.Req.Num || !slices.Contains(p.Replies, got)) {
		t.Fatalf("PlayerSure of %v is %v", p, got)
	}
	return got, ok
}

func playerAsk(t *testing.T, p impl.Player, r impl.Req) (impl.Player, bool) {
	t.Helper()
	var got impl.Player
	ok := false
	withPlayer(t, p, func(p impl.Player) {
		got, ok = impl.PlayerAsk(p, r)
		got = ownPlayer(got)
	})
	if want, wantOk := modelPlayerAsk(p, r); ok != wantOk || !samePlayer(got, want) {
		t.Fatalf("PlayerAsk %v\nin   %v\nis   %v %v\nwant %v %v", r, p, got, ok, want, wantOk)
	}
	if ok {
		checkP49(t, p, got, r)
	}
	return got, ok
}

func checkP49(t *testing.T, p, got impl.Player, r impl.Req) {
	t.Helper()
	_, before := impl.PlayerSure(p)
	_, after := impl.PlayerSure(got)
	if got.Req != r || len(got.Replies) > 0 || !impl.PlayerOk(got) || !before || after {
		t.Fatalf("%v asked in %v: %v, sure before %v, and then %v", r, p, got, before, after)
	}
}

// replyOf looks at promise 50 for each other replica.
func replyOf(t *testing.T, from int, g impl.Game, r impl.Req) (impl.Reply, bool) {
	t.Helper()
	before := cloneGame(g)
	got, ok := impl.ReplyOf(from, g, r)
	if want, wantOk := modelReplyOf(from, g, r); ok != wantOk || got != want {
		t.Fatalf("ReplyOf %d to %v\nin   %v\nis   %v %v\nwant %v %v", from, r, g, got, ok, want, wantOk)
	}
	if !sameGame(g, before) {
		t.Fatalf("ReplyOf changes its argument: %v, before %v", g, before)
	}
	if !ok {
		return got, ok
	}
	next, code := impl.GameDo(g, r)
	for other := range keepers {
		if other == from {
			continue
		}
		second, _ := impl.ReplyOf(other, g, r)
		p, heard := playerHear(t, player(r), got)
		p, also := playerHear(t, p, second)
		sure, like := playerSure(t, p)
		if !heard || !also || !like || sure != reply(from, r.Num, code, impl.Crc(impl.GamePut(next))) {
			t.Fatalf("%v and %v to %v in %v: %v, sure of %v %v", got, second, r, g, p, sure, like)
		}
	}
	return got, ok
}

type namedReply struct {
	name  string
	reply impl.Reply
}

// badReplies is replies that break one rule each. Their number is that of the client's request, as far as it can be.
func badReplies(num int) []namedReply {
	var list []namedReply
	for _, n := range []int{-1, math.MinInt, math.MaxInt, 1 << 32} {
		list = append(list,
			namedReply{"From " + strconv.Itoa(n), reply(n, num, 0, 5)}, namedReply{"Num " + strconv.Itoa(n), reply(0, n, 0, 5)},
			namedReply{"Code " + strconv.Itoa(n), reply(0, num, n, 5)}, namedReply{"Sum " + strconv.Itoa(n), reply(0, num, 0, n)})
	}
	return append(list,
		namedReply{"From 4", reply(keepers, num, 0, 5)}, namedReply{"Num 0", reply(0, 0, 0, 5)}, namedReply{"Num 31", reply(0, numbers+1, 0, 5)},
		namedReply{"Code 9", reply(0, num, 9, 5)}, namedReply{"Sum 1<<32", reply(0, num, 0, sumMax+1)}, namedReply{"Sum 1<<33-1", reply(0, num, 0, 1<<33-1)})
}

type namedPlayer struct {
	name   string
	player impl.Player
}

// badPlayers is clients that break one rule each. All but few of them have two matching replies.
func badPlayers() []namedPlayer {
	a, b := reply(0, 7, 0, 5), reply(2, 7, 0, 5)
	list := []namedPlayer{
		{"zero", impl.Player{}}, {"null request", player(impl.Req{}, reply(0, 0, 0, 5), reply(2, 0, 0, 5))},
		{"null request without replies", player(impl.Req{})}, {"null request and a valid reply", player(impl.Req{}, a, b)},
		{"twice", player(numbered(7), a, b, a)}, {"twice at first", player(numbered(7), a, a)}, {"twice, with another answer", player(numbered(7), a, b, reply(2, 7, 1, 6))},
		{"five", player(numbered(7), a, reply(1, 7, 0, 5), b, reply(3, 7, 0, 5), a)}, {"many", player(numbered(7), slices.Repeat([]impl.Reply{a, b}, 5000)...)},
		{"Num 6", player(numbered(7), a, b, reply(1, 6, 0, 5))}, {"Num 8 at first", player(numbered(7), reply(1, 8, 0, 5), a, b)},
		{"all of Num 8", player(numbered(8), a, b)}, {"two numbers", player(numbered(7), a, reply(2, 8, 0, 5))},
	}
	for i, r := range badAsks() {
		num := max(1, min(r.Num, numbers))
		list = append(list,
			namedPlayer{"request " + strconv.Itoa(i), player(r, reply(0, num, 0, 5), reply(2, num, 0, 5))}, namedPlayer{"its own Num " + strconv.Itoa(i), player(r, reply(0, r.Num, 0, 5), reply(2, r.Num, 0, 5))},
			namedPlayer{"only request " + strconv.Itoa(i), player(r)})
	}
	for _, x := range badReplies(7) {
		bad := x.reply
		if bad.From == 0 {
			bad.From = 1
		}
		list = append(list, namedPlayer{x.name, player(numbered(7), a, b, bad)}, namedPlayer{x.name + " at first", player(numbered(7), bad, a, b)}, namedPlayer{x.name + " alone", player(numbered(7), bad)})
	}
	return list
}

// replyLists is every list of replies of different replicas in any order, with answers of which some have only Code or only Sum in common.
func replyLists(num int) [][]impl.Reply {
	answers := []impl.Reply{reply(0, num, 0, 5), reply(0, num, 0, 6), reply(0, num, 8, 5), reply(0, num, 8, sumMax)}
	lists := [][]impl.Reply{nil}
	for done := 0; done < len(lists); done++ {
		list := lists[done]
		for from := range keepers {
			if slices.ContainsFunc(list, func(r impl.Reply) bool { return r.From == from }) {
				continue
			}
			for _, r := range answers {
				r.From = from
				lists = append(lists, append(slices.Clone(list), r))
			}
		}
	}
	return lists
}
