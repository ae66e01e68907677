package tests

import (
	"slices"
	"strings"
	"testing"

	"loop.example/wapentake/impl"
)

const newText = "2,1,1,1,1,2,1,1,1,1,2,1,1,1,1,2,/0,0,0,0,"

func TestP7Examples(t *testing.T) {
	if s := impl.GamePut(impl.GameNew()); s != newText {
		t.Errorf("the new game is written as %q", s)
	}
	g := gameWith(impl.Ent{Client: 2, X: 3, Y: 1, Life: 0, Gold: 12}, impl.Ent{Client: 4, X: 0, Y: 2, Life: 3})
	g.Floor[0], g.Floor[15] = 1, 7
	g.Last = []int{30, 0, 7, 19}
	if s := impl.GamePut(g); s != "1,0,0,0,0,0,0,0,0,0,0,0,0,0,0,7,/30,0,7,19,/2,3,1,0,12/4,0,2,3,0" {
		t.Errorf("written as %q", s)
	}
}

func TestP7States(t *testing.T) {
	figures := map[int]bool{}
	for _, g := range someGames() {
		figures[len(g.Ents)] = true
		before := cloneGame(g)
		s := impl.GamePut(g)
		if s == "" {
			t.Fatalf("nothing is written for %v", g)
		}
		back, ok := impl.GameGet(s)
		if !ok || !sameGame(back, g) || !sameGame(g, before) {
			t.Fatalf("%v is read back as %v %v", g, back, ok)
		}
		checkApart(t, s, back)
	}
	for n := range clients + 1 {
		if !figures[n] {
			t.Errorf("no state with %d figures", n)
		}
	}
}

func TestP7EmptyAndNil(t *testing.T) {
	g := impl.GameNew()
	g.Ents = []impl.Ent{}
	if impl.GamePut(g) != newText {
		t.Error("no figures, and none in an empty slice, are the same")
	}
}

func TestP7InvalidStates(t *testing.T) {
	for _, b := range badGames() {
		if s := impl.GamePut(b.game); s != "" {
			t.Errorf("%s is written as %q", b.name, s)
		}
	}
}

// Each text here is what an invalid state would be written as, or a state written another way.
func TestP8NoEncodings(t *testing.T) {
	floor, last := "2,1,1,1,1,2,1,1,1,1,2,1,1,1,1,2,", "0,0,0,0,"
	short := floor[2:]
	bad := []string{
		"", "/", "//", ",/,", "none", floor, last, floor + "/", "/" + last, floor + last, floor + "//" + last, last + "/" + floor,
		floor + "/" + last + "/", "/" + floor + "/" + last, floor + "/" + last + "\n", " " + floor + "/" + last, floor + " /" + last,
		strings.TrimSuffix(floor, ",") + "/" + last, floor + "/" + strings.TrimSuffix(last, ","), floor + ",/" + last, floor + "/" + last + ",",
		"," + floor + "/" + last, floor + "/," + last, floor + "0,/" + last, short + "/" + last, floor + "/0,0,0,", floor + "/0,0,0,0,0,",
		"02," + short + "/" + last, "+2," + short + "/" + last, "-2," + short + "/" + last, "2 ," + short + "/" + last, "x," + short + "/" + last,
		"1," + short + "/" + last, "3," + short + "/" + last, "2.0," + short + "/" + last, "0x2," + short + "/" + last, "," + short + "/" + last,
		"18446744073709551618," + short + "/" + last, floor + "/-0,0,0,0,", floor + "/00,0,0,0,", floor + "/31,0,0,0,", floor + "/0,0,0,-1,",
		"-1," + strings.Replace(short, "1,", "4,", 1) + "/" + last,
		floor + "/" + last + "1,0,0,3,0", floor + "/" + last + "/1,0,0,3", floor + "/" + last + "/1,0,0,3,0,", floor + "/" + last + "/1,0,0,3,0,0",
		floor + "/" + last + "/1,0,0,3,1", floor + "/" + last + "/0,0,0,3,0", floor + "/" + last + "/5,0,0,3,0", floor + "/" + last + "/1,4,0,3,0",
		floor + "/" + last + "/1,-1,0,3,0", floor + "/" + last + "/1,0,4,3,0", floor + "/" + last + "/1,0,0,4,0", floor + "/" + last + "/1,0,0,-1,0",
		floor + "/" + last + "/1,0,0,3,-0", floor + "/" + last + "/1,00,0,3,0", floor + "/" + last + "/+1,0,0,3,0", floor + "/" + last + "/1,0,0,3,0/",
		floor + "/" + last + "/1,0,0,3,0//2,0,0,3,0", floor + "/" + last + "/2,0,0,3,0/1,0,0,3,0", floor + "/" + last + "/1,0,0,3,0/1,0,0,3,0",
		floor + "/" + last + "/1,0,0,3,0,2,0,0,3,0", floor + "/" + last + "/1 0 0 3 0", floor + "/" + last + strings.Repeat("/1,0,0,3,0", 1000),
		strings.Repeat("/", 1000), strings.Repeat("0,", 1000),
	}
	for _, s := range bad {
		if g, ok := impl.GameGet(s); ok || !isZeroGame(g) {
			t.Errorf("GameGet(%q) is %v %v", s, g, ok)
		}
	}
}

func TestP8NearTexts(t *testing.T) {
	texts := []string{
		newText,
		"1,0,0,0,0,0,0,0,0,0,0,0,0,0,0,7,/30,0,7,19,/2,3,1,0,12/4,0,2,3,0",
		impl.GamePut(gameWith(impl.Ent{Client: 1, X: 1, Y: 2, Life: 2, Gold: gold})),
	}
	taken := 0
	for _, text := range texts {
		for _, s := range nearTexts(text) {
			g, ok := impl.GameGet(s)
			if !ok {
				if !isZeroGame(g) {
					t.Fatalf("GameGet(%q) fails with %v", s, g)
				}
				continue
			}
			taken++
			if !impl.GameOk(g) || impl.GamePut(g) != s {
				t.Fatalf("GameGet takes %q, which is written as %q", s, impl.GamePut(g))
			}
		}
	}
	// A figure's place or life and a client's last number may change without the gold.
	if taken == 0 {
		t.Error("no text near an encoding is one")
	}
}

func TestP8Same(t *testing.T) {
	s := "1,0,0,0,0,0,0,0,0,0,0,0,0,0,0,7,/30,0,7,19,/2,3,1,0,12/4,0,2,3,0"
	g, ok := impl.GameGet(s)
	ents := []impl.Ent{{Client: 2, X: 3, Y: 1, Gold: 12}, {Client: 4, Y: 2, Life: 3}}
	if !ok || !slices.Equal(g.Ents, ents) || g.Floor[0] != 1 || g.Floor[15] != 7 || !slices.Equal(g.Last, []int{30, 0, 7, 19}) {
		t.Errorf("read as %v %v", g, ok)
	}
	if impl.GamePut(g) != s {
		t.Errorf("written as %q", impl.GamePut(g))
	}
}
