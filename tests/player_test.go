package tests

import (
	"slices"
	"testing"

	"loop.example/wapentake/impl"
)

func TestLimitsOfClients(t *testing.T) {
	if impl.Alike != 2 {
		t.Errorf("Alike is %d", impl.Alike)
	}
}

func mustHear(t *testing.T, p impl.Player, r impl.Reply) impl.Player {
	t.Helper()
	next, ok := playerHear(t, p, r)
	if !ok || !slices.Equal(next.Replies, append(slices.Clone(p.Replies), r)) {
		t.Fatalf("PlayerHear %v in %v is %v %v", r, p, next, ok)
	}
	return next
}

func mustNotHear(t *testing.T, name string, p impl.Player, r impl.Reply) {
	t.Helper()
	if next, ok := playerHear(t, p, r); ok || !samePlayer(next, p) {
		t.Fatalf("%s: PlayerHear %v in %v is %v %v", name, r, p, next, ok)
	}
}

func TestP47Limits(t *testing.T) {
	for _, num := range []int{1, 2, 29, numbers} {
		for from := range keepers {
			for code := range 9 {
				for _, sum := range []int{0, 1, 1 << 31, sumMax - 1, sumMax} {
					r := reply(from, num, code, sum)
					p := mustHear(t, player(numbered(num)), r)
					mustHear(t, p, reply((from+1)%keepers, num, 8-code, sumMax-sum))
				}
			}
		}
	}
}

func TestP47EachRequest(t *testing.T) {
	for _, r := range allAsks() {
		if p := player(r, reply(3, r.Num, 1, 7)); !impl.PlayerOk(player(r)) || !impl.PlayerOk(p) {
			t.Fatalf("not valid: %v", p)
		}
	}
}

func TestP47BadReplies(t *testing.T) {
	for _, num := range []int{1, 7, numbers} {
		for _, x := range badReplies(num) {
			for _, p := range []impl.Player{player(numbered(num)), player(numbered(num), reply(1, num, 0, 5)), player(numbered(num), reply(1, num, 0, 5), reply(3, num, 0, 5))} {
				mustNotHear(t, x.name, p, x.reply)
			}
		}
		mustNotHear(t, "zero", player(numbered(num)), impl.Reply{})
	}
}

func TestP47OtherNum(t *testing.T) {
	for num := 1; num <= numbers; num++ {
		for other := 1; other <= numbers; other++ {
			if p := player(numbered(num), reply(2, num, 0, 5)); other != num {
				mustNotHear(t, "another Num", p, reply(0, other, 0, 5))
			} else {
				mustHear(t, p, reply(0, other, 0, 5))
			}
		}
	}
}

func TestP47SameReplicaTwice(t *testing.T) {
	for _, list := range replyLists(4) {
		p := player(numbered(4), list...)
		for _, r := range list {
			mustNotHear(t, "again", p, r)
			mustNotHear(t, "another answer", p, reply(r.From, 4, r.Code^1, r.Sum^1))
		}
	}
}

func TestP47EachList(t *testing.T) {
	for _, list := range replyLists(30) {
		p := player(numbered(30))
		for _, r := range list {
			p = mustHear(t, p, r)
		}
		if !impl.PlayerOk(p) {
			t.Fatalf("not valid: %v", p)
		}
	}
}

func TestP47NoReplies(t *testing.T) {
	for _, list := range [][]impl.Reply{nil, {}} {
		if p := player(numbered(1), list...); !impl.PlayerOk(p) {
			t.Errorf("not valid: %v", p)
		}
	}
}

func TestP47InvalidPlayers(t *testing.T) {
	for _, x := range badPlayers() {
		if impl.PlayerOk(x.player) || modelPlayerOk(x.player) {
			t.Errorf("%s: valid: %v", x.name, x.player)
		}
		for _, r := range []impl.Reply{reply(3, 7, 0, 5), reply(0, 7, 0, 5), reply(3, max(1, x.player.Req.Num), 0, 5), {}} {
			if p, ok := playerHear(t, x.player, r); ok || !isZeroPlayer(p) {
				t.Errorf("%s: PlayerHear is %v %v", x.name, p, ok)
			}
		}
	}
}

func mustBeSure(t *testing.T, want impl.Reply, replies ...impl.Reply) {
	t.Helper()
	p := player(numbered(replies[0].Num), replies...)
	if got, ok := playerSure(t, p); !ok || got != want {
		t.Errorf("PlayerSure of %v is %v %v, want %v", p, got, ok, want)
	}
}

func mustNotBeSure(t *testing.T, p impl.Player) {
	t.Helper()
	if got, ok := playerSure(t, p); ok || got != (impl.Reply{}) {
		t.Errorf("PlayerSure of %v is %v %v", p, got, ok)
	}
}

// answers is a reply of each replica with that Code and Sum.
func answers(code, sum int) []impl.Reply {
	var list []impl.Reply
	for from := range keepers {
		list = append(list, reply(from, 9, code, sum))
	}
	return list
}

func TestP48Examples(t *testing.T) {
	a, b, c := answers(0, 5), answers(7, 6), answers(3, 0)
	mustNotBeSure(t, player(numbered(9)))
	mustNotBeSure(t, player(numbered(9), a[0]))
	mustNotBeSure(t, player(numbered(9), a[0], b[1]))
	mustNotBeSure(t, player(numbered(9), a[2], b[1], c[0]))
	mustNotBeSure(t, player(numbered(9), a[3], b[1], c[0], reply(2, 9, 3, 1)))
	mustBeSure(t, a[2], a[2], a[0])
	mustBeSure(t, a[2], a[2], b[1], a[0])
	mustBeSure(t, b[1], a[2], b[1], b[3])
	mustBeSure(t, b[3], a[2], b[3], c[1], b[0])
	mustBeSure(t, a[1], a[1], a[2], a[0])
	mustBeSure(t, a[3], a[3], a[2], a[1], a[0])
	mustBeSure(t, a[3], a[3], b[0], a[2], a[1])
	mustBeSure(t, a[1], b[3], a[1], a[2], a[0])
}

func TestP48TwoPairs(t *testing.T) {
	a, b := answers(0, 5), answers(0, 6)
	mustBeSure(t, a[0], a[0], a[1], b[2], b[3])
	mustBeSure(t, a[0], a[0], b[1], a[2], b[3])
	// The second one matched first, as long as there were three.
	mustBeSure(t, b[1], a[0], b[1], b[2])
	mustBeSure(t, a[0], a[0], b[1], b[2], a[3])
}

func TestP48CodeOrSumAlone(t *testing.T) {
	mustNotBeSure(t, player(numbered(9), reply(0, 9, 0, 5), reply(1, 9, 0, 6), reply(2, 9, 0, 7), reply(3, 9, 0, 8)))
	mustNotBeSure(t, player(numbered(9), reply(0, 9, 0, 5), reply(1, 9, 1, 5), reply(2, 9, 2, 5), reply(3, 9, 3, 5)))
	mustNotBeSure(t, player(numbered(9), reply(0, 9, 0, 5), reply(1, 9, 5, 0), reply(2, 9, 0, 0), reply(3, 9, 5, 5)))
	mustNotBeSure(t, player(numbered(9), reply(0, 9, 0, 0), reply(1, 9, 0, sumMax)))
	mustBeSure(t, reply(3, 9, 0, 0), reply(3, 9, 0, 0), reply(0, 9, 0, 0))
	mustBeSure(t, reply(3, 9, 8, sumMax), reply(3, 9, 8, sumMax), reply(0, 9, 8, sumMax))
	mustBeSure(t, reply(3, 9, 1, 4), reply(3, 9, 1, 4), reply(0, 9, 1, 4))
}

// TestP48EachList counts the pairs that match.
func TestP48EachList(t *testing.T) {
	for _, list := range replyLists(30) {
		pairs := 0
		for i, a := range list {
			for _, b := range list[i+1:] {
				if a.Code == b.Code && a.Sum == b.Sum {
					pairs++
				}
			}
		}
		got, ok := playerSure(t, player(numbered(30), list...))
		if ok != (pairs > 0) || ok && got.Num != 30 {
			t.Fatalf("PlayerSure of %v is %v %v", list, got, ok)
		}
	}
}

func TestP48InvalidPlayers(t *testing.T) {
	for _, x := range badPlayers() {
		t.Run(x.name, func(t *testing.T) { mustNotBeSure(t, x.player) })
	}
}
