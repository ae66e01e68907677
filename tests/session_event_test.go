package tests

import (
	"slices"
	"strconv"
	"testing"

	"loop.example/wapentake/impl"
)

func TestP43AskedTwice(t *testing.T) {
	for bad := range keepers {
		mustSay(t, bad, [][2]string{
			{"ask 1 1 join 0 0", "ok"}, {"ask 1 1 join 0 0", "no"}, {"said", "1"}, {"ask 1 2 join 0 0", "ok"}, {"ask 2 1 join 0 0", "ok"},
			{"ask 1 1 take 0 0", "ok"}, {"ask 1 1 move -1 1", "ok"}, {"ask 1 1 move 1 -1", "ok"}, {"ask 1 1 join 0 0", "no"}, {"ask 1 1 move 1 -1", "no"}, {"said", "6"},
		}...)
	}
}

// TestP43FakesOfBad has each of the three messages for each place, once and a second time.
func TestP43FakesOfBad(t *testing.T) {
	for bad := range keepers {
		for view := 0; view <= lastView; view++ {
			var pairs [][2]string
			for seq := 1; seq <= lastSeq; seq++ {
				for _, name := range []string{"offer", "yes", "sure"} {
					line := name + " " + strconv.Itoa(view) + " " + strconv.Itoa(seq) + " 2 7 give 3 9"
					pairs = append(pairs, [2]string{line, "ok"}, [2]string{line, "no"})
				}
			}
			mustSay(t, bad, append(pairs, [2]string{"said", "15"}, [2]string{"agree", "ok"})...)
		}
	}
}

func TestP43FakesOutOfRange(t *testing.T) {
	for _, name := range []string{"offer ", "yes ", "sure "} {
		for _, numbers := range []string{"-1 1", "7 1", "0 0", "0 6", "0 -1", "6 6", "7 5", "99 99", "-1 -1", "1 0", "-99 3"} {
			for bad := range keepers {
				mustAnswer(t, bad, nil, name+numbers+" 1 1 join 0 0", "no")
			}
		}
	}
}

// TestP43SentAlready has Bad send again what it sent before, and what another replica sent.
func TestP43SentAlready(t *testing.T) {
	mustSay(t, 0, [][2]string{
		{"ask 1 1 join 0 0", "ok"}, {"offer 0 1 1 1 join 0 0", "ok"}, {"hear 1 1", "ok"}, {"hear 1 2", "ok"}, {"hear 1 3", "ok"}, {"said", "5"},
		{"yes 0 1 1 1 join 0 0", "ok"}, {"yes 0 1 1 1 join 0 0", "no"}, {"offer 0 1 1 1 join 0 0", "no"}, {"sure 0 1 1 1 join 0 0", "ok"},
		{"sure 0 1 1 1 join 0 0", "no"}, {"sure 0 1 none", "ok"}, {"sure 1 1 1 1 join 0 0", "ok"}, {"said", "9"},
	}...)
}

// TestP43OfferOfALeader has the others take what Bad offers in the view that it leads, and nothing that it offers in another one.
func TestP43OfferOfALeader(t *testing.T) {
	mustSay(t, 0, [][2]string{
		{"ask 1 1 join 0 0", "ok"}, {"offer 0 3 1 1 join 0 0", "ok"}, {"hear 1 2", "ok"}, {"said", "3"},
		{"offer 0 3 2 1 join 0 0", "ok"}, {"hear 3 1", "ok"}, {"said", "4"}, {"hear 1 1", "ok"}, {"said", "5"},
	}...)
	mustSay(t, 1, [][2]string{
		{"ask 1 1 join 0 0", "ok"}, {"offer 0 3 1 1 join 0 0", "ok"}, {"hear 1 2", "ok"}, {"hear 1 3", "ok"}, {"hear 1 0", "ok"}, {"said", "2"},
	}...)
}

// TestP43YesAndSureOfBad has a request committed with what Bad says in place of a correct replica.
func TestP43YesAndSureOfBad(t *testing.T) {
	mustSay(t, 2, [][2]string{
		{"ask 4 1 join 0 0", "ok"}, {"hear 0 0", "ok"}, {"hear 1 1", "ok"}, {"said", "3"},
		{"yes 0 1 4 1 join 0 0", "ok"}, {"hear 3 1", "ok"}, {"said", "5"}, {"hear 2 0", "ok"}, {"hear 3 0", "ok"}, {"said", "6"},
		{"sure 0 1 4 1 join 0 0", "ok"}, {"hear 5 1", "ok"}, {"done 1", ""}, {"hear 6 1", "ok"}, {"done 1", "4 1 join 0 0"},
		{"done 0", ""}, {"game 1", impl.GamePut(impl.GameFold([]impl.Req{joinOf(4)}))}, {"game 0", impl.GamePut(impl.GameNew())},
		{"done 2", ""}, {"agree", "ok"},
	}...)
}

func TestP43Hear(t *testing.T) {
	for bad := range keepers {
		for k := range keepers {
			text := strconv.Itoa(k)
			want := "ok"
			if k == bad {
				want = "no"
			}
			mustAnswer(t, bad, nil, "hear 0 "+text, "no")
			mustAnswer(t, bad, []string{"ask 1 1 join 0 0"}, "hear 0 "+text, want)
			mustAnswer(t, bad, []string{"ask 1 1 join 0 0", "hear 0 0", "hear 0 1", "hear 0 " + text}, "hear 0 "+text, want)
			for _, at := range []string{"1", "-1", "2", "99", "-99", "100"} {
				mustAnswer(t, bad, []string{"ask 1 1 join 0 0"}, "hear "+at+" "+text, "no")
			}
		}
		for _, to := range []string{"-1", "4", "5", "-4", "99", "100"} {
			mustAnswer(t, bad, []string{"ask 1 1 join 0 0"}, "hear 0 "+to, "no")
		}
	}
}

// TestP43Turn goes to the last view, and not beyond.
func TestP43Turn(t *testing.T) {
	for bad := range keepers {
		for k := range keepers {
			line, view := "turn "+strconv.Itoa(k), "view "+strconv.Itoa(k)
			if k == bad {
				mustSay(t, bad, [][2]string{{line, "no"}, {view, "0 ok"}, {"said", "0"}}...)
				continue
			}
			var pairs [][2]string
			for n := range lastView {
				next := strconv.Itoa(n + 1)
				pairs = append(pairs, [][2]string{{line, "ok"}, {view, next + " no"}, {"said", next}}...)
			}
			pairs = append(pairs, [][2]string{{line, "no"}, {line, "no"}, {view, "6 no"}, {"said", "6"}, {"agree", "ok"}}...)
			mustSay(t, bad, pairs...)
		}
		for _, to := range []string{"-1", "4", "5", "-4", "99", "100"} {
			mustAnswer(t, bad, []string{"turn 2"}, "turn "+to, "no")
		}
	}
}

// TestP43ANewView has a view entered: its leader and the others are live again.
func TestP43ANewView(t *testing.T) {
	mustSay(t, 0, [][2]string{
		{"turn 1", "ok"}, {"turn 2", "ok"}, {"view 2", "1 no"}, {"hear 1 1", "ok"}, {"view 1", "1 no"}, {"turn 3", "ok"}, {"hear 2 1", "ok"}, {"view 1", "1 ok"},
		{"said", "4"}, {"hear 3 2", "ok"}, {"view 2", "1 ok"}, {"view 3", "1 no"}, {"view 0", "0 ok"},
	}...)
}

// TestP43LinesAreEvents has the lines of a session and the events that they stand for come to the same.
func TestP43LinesAreEvents(t *testing.T) {
	lines := busyLines()
	events := []impl.Event{askEvent(joinOf(1)), hearEvent(0, 0), hearEvent(1, 1), hearEvent(1, 2), hearEvent(2, 0), hearEvent(3, 0), hearEvent(3, 1)}
	for _, r := range mustReqs(t, "2 1 join 0 0", "3 1 join 0 0", "4 1 join 0 0", "1 2 take 0 0", "2 2 take 0 0") {
		events = append(events, askEvent(r))
	}
	if len(lines) != len(events) {
		t.Fatalf("%d lines, %d events", len(lines), len(events))
	}
	w := impl.WorldNew(3)
	for i, e := range events {
		w, _ = impl.WorldDo(w, e)
		list := session(t, 3, slices.Concat(lines[:i+1], lookLines())...)[i+1:]
		if list[0] != strconv.Itoa(len(w.Said)) || list[1] != "ok" {
			t.Fatalf("after %q: %q, want %v", lines[:i+1], list, w)
		}
		for k := range keepers {
			if game := list[4+3*k]; game != impl.GamePut(impl.WorldGame(w, k)) {
				t.Fatalf("after %q: %q, want %v", lines[:i+1], game, w)
			}
		}
	}
}
