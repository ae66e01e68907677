package tests

import (
	"slices"
	"testing"

	"loop.example/wapentake/impl"
)

func mustNotAsk(t *testing.T, name string, p impl.Player, r impl.Req) {
	t.Helper()
	if next, ok := playerAsk(t, p, r); ok || !samePlayer(next, p) {
		t.Fatalf("%s: PlayerAsk %v in %v is %v %v", name, r, p, next, ok)
	}
}

func mustAsk(t *testing.T, p impl.Player, r impl.Req) impl.Player {
	t.Helper()
	next, ok := playerAsk(t, p, r)
	if !ok || !samePlayer(next, player(r)) {
		t.Fatalf("PlayerAsk %v in %v is %v %v", r, p, next, ok)
	}
	return next
}

// surePlayer is a client that may ask for something else.
func surePlayer(r impl.Req) impl.Player {
	return player(r, reply(3, r.Num, 7, 8), reply(0, r.Num, 0, 5), reply(2, r.Num, 0, 5))
}

func TestP49EachRequest(t *testing.T) {
	for client := 1; client <= clients; client++ {
		for _, num := range []int{1, 12, 29, numbers} {
			p := surePlayer(impl.Req{Client: client, Num: num, Op: 3})
			for _, r := range allAsks() {
				if next, ok := playerAsk(t, p, r); ok != (r.Client == client && r.Num > num) {
					t.Fatalf("PlayerAsk %v in %v is %v %v", r, p, next, ok)
				}
			}
		}
	}
}

func TestP49Nums(t *testing.T) {
	p := surePlayer(numbered(12))
	mustNotAsk(t, "the same", p, numbered(12))
	mustNotAsk(t, "the same Num", p, impl.Req{Client: 2, Num: 12, Op: 1})
	mustNotAsk(t, "a smaller Num", p, numbered(11))
	mustNotAsk(t, "the smallest Num", p, numbered(1))
	mustAsk(t, p, numbered(13))
	mustAsk(t, p, numbered(numbers))
	mustNotAsk(t, "Num 31", p, numbered(numbers+1))
	mustNotAsk(t, "behind Num 30", surePlayer(numbered(numbers)), numbered(numbers+1))
}

func TestP49OtherClient(t *testing.T) {
	p := surePlayer(numbered(12))
	for _, client := range []int{0, 1, 3, 4, 5} {
		mustNotAsk(t, "another client", p, impl.Req{Client: client, Num: 13, Op: 3})
	}
}

func TestP49BadRequests(t *testing.T) {
	p := surePlayer(impl.Req{Client: 1, Num: 1, Op: 1})
	mustNotAsk(t, "null", p, impl.Req{})
	for _, r := range badAsks() {
		mustNotAsk(t, "as it is", p, r)
		if r.Client == 1 && r.Num == 1 {
			// Its Num is no reason to refuse it then.
			r.Num = 2
			mustNotAsk(t, "with Num 2", p, r)
		}
	}
}

func TestP49NotSure(t *testing.T) {
	for _, list := range replyLists(12) {
		p := player(numbered(12), list...)
		next, ok := playerAsk(t, p, numbered(13))
		if _, sure := impl.PlayerSure(p); ok != sure || !ok && !samePlayer(next, p) {
			t.Fatalf("PlayerAsk in %v is %v %v", p, next, ok)
		}
	}
}

// TestP49InvalidPlayers has the client back, other than from PlayerHear.
func TestP49InvalidPlayers(t *testing.T) {
	for _, x := range badPlayers() {
		for _, r := range []impl.Req{numbered(numbers), {Client: 1, Num: numbers, Op: 1}, {Client: x.player.Req.Client, Num: x.player.Req.Num + 1, Op: 3}, {}, x.player.Req} {
			mustNotAsk(t, x.name, x.player, r)
		}
	}
}

// TestP49Chain has a client ask for one thing after the other.
func TestP49Chain(t *testing.T) {
	p := player(numbered(1))
	for num := 1; num < numbers; num++ {
		next := numbered(num + 1)
		mustNotAsk(t, "no replies", p, next)
		p = mustHear(t, p, reply(num%keepers, num, 5, num))
		mustNotAsk(t, "one reply", p, next)
		p = mustHear(t, p, reply((num+1)%keepers, num, 6, num))
		mustNotAsk(t, "two replies", p, next)
		p = mustHear(t, p, reply((num+2)%keepers, num, 5, num))
		mustNotHear(t, "of the next Num", p, reply((num+3)%keepers, num+1, 5, num))
		p = mustAsk(t, p, next)
		mustNotHear(t, "of the Num before", p, reply(num%keepers, num, 5, num))
	}
}

// codeGame is a state in which each code can come out: clients 1 and 2 stand side by side, 3 is far away, and 4 is off.
func codeGame() impl.Game {
	g := gameWith(impl.Ent{Client: 1, X: 1, Y: 1, Life: 3, Gold: 4}, impl.Ent{Client: 2, X: 2, Y: 1, Life: 1}, impl.Ent{Client: 3, X: 3, Y: 3, Life: 2, Gold: 1})
	g.Last = []int{5, 0, 9, 0}
	return g
}

func TestP50EachCode(t *testing.T) {
	want := map[string]int{
		"1 6 move 1 0": 0, "1 6 give 2 4": 0, "1 6 hit 2 0": 0, "4 1 join 0 0": 0, "3 30 move -1 -1": 0,
		"1 5 take 0 0": 3, "1 1 join 0 0": 3, "3 9 move 0 0": 3, "1 6 join 0 0": 4, "4 1 take 0 0": 5, "4 30 hit 1 0": 5,
		"3 10 move 1 0": 6, "1 6 take 0 0": 7, "1 6 give 2 5": 7, "1 6 hit 3 0": 8, "1 6 give 4 1": 8, "1 6 hit 1 0": 8,
	}
	for text, code := range want {
		r := mustReq(t, text)
		for from := range keepers {
			got, ok := replyOf(t, from, codeGame(), r)
			if !ok || got.From != from || got.Num != r.Num || got.Code != code {
				t.Errorf("ReplyOf %d to %s is %v %v, want Code %d", from, text, got, ok, code)
			}
		}
	}
}

func TestP50Examples(t *testing.T) {
	g := impl.GameNew()
	for text, want := range map[string]impl.Reply{
		"1 1 join 0 0": reply(0, 1, 0, 3476862936), "2 30 take 0 0": reply(0, 30, 5, 174572606), "4 7 join 0 0": reply(0, 7, 0, 1747570100),
	} {
		for from := range keepers {
			want.From = from
			if got, ok := replyOf(t, from, g, mustReq(t, text)); !ok || got != want {
				t.Errorf("ReplyOf %d to %s is %v %v, want %v", from, text, got, ok, want)
			}
		}
	}
}

func TestP50States(t *testing.T) {
	c := &chance{state: 50}
	codes := map[int]int{}
	for _, g := range someGames() {
		for range 4 {
			asks := asksOf(1+c.below(clients), 1+c.below(numbers))
			got, ok := replyOf(t, c.below(keepers), g, asks[c.below(len(asks))])
			if !ok {
				t.Fatalf("no reply in %v", g)
			}
			codes[got.Code]++
		}
	}
	for _, code := range []int{0, 3, 4, 5, 6, 7, 8} {
		if codes[code] == 0 {
			t.Errorf("no reply has Code %d: %v", code, codes)
		}
	}
}

func mustNotReply(t *testing.T, name string, from int, g impl.Game, r impl.Req) {
	t.Helper()
	if got, ok := replyOf(t, from, g, r); ok || got != (impl.Reply{}) {
		t.Errorf("%s: ReplyOf is %v %v", name, got, ok)
	}
}

func TestP50NoReplica(t *testing.T) {
	for _, from := range []int{-1, keepers, keepers + 1, 1 << 32, -1 << 63} {
		mustNotReply(t, "no replica", from, impl.GameNew(), joinOf(1))
	}
}

func TestP50InvalidStates(t *testing.T) {
	for _, b := range badGames() {
		mustNotReply(t, b.name, 1, b.game, joinOf(1))
		mustNotReply(t, b.name, 1, b.game, impl.Req{})
	}
}

func TestP50InvalidRequests(t *testing.T) {
	for _, g := range []impl.Game{impl.GameNew(), codeGame()} {
		mustNotReply(t, "null", 2, g, impl.Req{})
		for _, r := range badAsks() {
			mustNotReply(t, "invalid", 2, g, r)
		}
	}
}

// TestP50Lie has one replica say something else, whichever of four it is and whenever it says so.
func TestP50Lie(t *testing.T) {
	r := mustReq(t, "1 6 move 1 0")
	for liar := range keepers {
		for at := range keepers {
			order := slices.Insert(slices.DeleteFunc([]int{0, 1, 2, 3}, func(k int) bool { return k == liar }), at, liar)
			p := player(r)
			honest, _ := impl.ReplyOf(0, codeGame(), r)
			for _, from := range order {
				next, _ := replyOf(t, from, codeGame(), r)
				if from == liar {
					next.Code, next.Sum = 6, next.Sum^1
				}
				p = mustHear(t, p, next)
				if got, ok := playerSure(t, p); ok && (got.Code != honest.Code || got.Sum != honest.Sum) {
					t.Fatalf("%v is sure of %v", p, got)
				}
			}
			if _, ok := playerSure(t, p); !ok {
				t.Fatalf("%v is not sure", p)
			}
		}
	}
}
