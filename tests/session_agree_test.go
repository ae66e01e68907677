package tests

import (
	"fmt"
	"slices"
	"strconv"
	"strings"
	"testing"

	"loop.example/wapentake/impl"
)

// mustEndWell has `agree` at the end answer ok, and does not rely on it alone: what one correct replica has done begins with what another one has done, or the other way round.
func mustEndWell(t *testing.T, bad int, lines []string) []string {
	t.Helper()
	end := []string{"done 0", "done 1", "done 2", "done 3", "agree"}
	list := answersIn(t, sessionOf(t, bad, slices.Concat(lines, end)))
	if len(list) != len(lines)+len(end) || list[len(list)-1] != "ok" {
		t.Fatalf("Bad is %d, the answers to %q and %q are %q", bad, lines, end, list)
	}
	done := list[len(lines) : len(list)-1]
	for a := range keepers {
		for b := range a {
			if a != bad && b != bad && !strings.HasPrefix(done[a]+"|", done[b]+"|") && !strings.HasPrefix(done[b]+"|", done[a]+"|") && done[a] != "" && done[b] != "" {
				t.Fatalf("Bad is %d, after %q replica %d has done %q, and %d %q", bad, lines, a, done[a], b, done[b])
			}
		}
	}
	return done
}

// mustEndWellAtEach has `agree` behind each prefix as well.
func mustEndWellAtEach(t *testing.T, bad int, lines []string) []string {
	t.Helper()
	for n := range lines {
		list := answersIn(t, sessionOf(t, bad, append(lines[:n:n], "agree")))
		if len(list) != n+1 || list[n] != "ok" {
			t.Fatalf("Bad is %d, the answers to %q are %q", bad, append(lines[:n:n], "agree"), list)
		}
	}
	return mustEndWell(t, bad, lines)
}

func TestP44Nothing(t *testing.T) {
	for bad := range keepers {
		mustEndWellAtEach(t, bad, nil)
		for n := range sessionMax - 4 {
			mustEndWell(t, bad, slices.Repeat([]string{"what"}, n))
		}
	}
}

// TestP44TwoOffers has replica 0 offer two requests for one sequence number, one of them to replicas 1 and 3 and the other to 2, and say yes and sure for both.
func TestP44TwoOffers(t *testing.T) {
	lines := []string{
		"ask 1 1 join 0 0", "ask 2 1 join 0 0", "offer 0 1 1 1 join 0 0", "offer 0 1 2 1 join 0 0",
		"hear 2 1", "hear 2 3", "hear 3 2", "hear 3 1", "hear 2 2",
		"yes 0 1 1 1 join 0 0", "yes 0 1 2 1 join 0 0", "sure 0 1 1 1 join 0 0", "sure 0 1 2 1 join 0 0",
	}
	mustEndWellAtEach(t, 0, lines)
	done := mustEndWellAtEach(t, 0, append(lines, "calm 3"))
	if want := []string{"", "1 1 join 0 0", "", "1 1 join 0 0"}; !slices.Equal(done, want) {
		t.Errorf("done is %q, want %q", done, want)
	}
	done = mustEndWellAtEach(t, 0, append(lines, "calm 3", "turn 1", "turn 2", "turn 3", "calm 1", "calm 2", "calm 3"))
	if want := "1 1 join 0 0|2 1 join 0 0"; done[1] != want || done[2] != want || done[3] != want {
		t.Errorf("done is %q, want %q for all but 0", done, want)
	}
}

// TestP44YesBeforeTheView has Bad say yes and sure for a request in a view that comes later, where another one was committed before.
func TestP44YesBeforeTheView(t *testing.T) {
	lines := []string{"ask 1 1 join 0 0", "ask 2 1 join 0 0"}
	for view := range 3 {
		for _, name := range []string{"yes", "sure"} {
			lines = append(lines, name+" "+strconv.Itoa(view)+" 1 2 1 join 0 0", name+" "+strconv.Itoa(view)+" 2 none")
		}
	}
	lines = append(lines, "hear 0 0", "calm 2", "turn 0", "turn 1", "turn 2", "calm 1", "turn 2", "turn 1", "turn 0", "calm 3")
	done := mustEndWellAtEach(t, 3, lines)
	if want := "1 1 join 0 0|2 1 join 0 0"; done[0] != want || done[1] != want || done[2] != want {
		t.Errorf("done is %q, want %q for all but 3", done, want)
	}
}

// TestP44NotAsked has Bad offer what no client asked for, and say yes and sure for it: nobody does it.
func TestP44NotAsked(t *testing.T) {
	lines := []string{"offer 0 1 1 1 join 0 0", "yes 0 1 1 1 join 0 0", "sure 0 1 1 1 join 0 0", "calm 3", "turn 1", "turn 2", "turn 3", "calm 3"}
	done := mustEndWellAtEach(t, 0, lines)
	if slices.ContainsFunc(done, func(s string) bool { return s != "" }) {
		t.Errorf("done is %q", done)
	}
	lines = append(lines, "ask 1 1 join 0 0", "calm 3")
	done = mustEndWellAtEach(t, 0, lines)
	if want := "1 1 join 0 0"; done[1] != want || done[2] != want || done[3] != want {
		t.Errorf("done is %q, want %q for all but 0", done, want)
	}
}

// TestP44EachView has all turn from view to view, with lies of Bad in each of them.
func TestP44EachView(t *testing.T) {
	for bad := range keepers {
		lines := []string{"ask 1 1 join 0 0", "ask 2 1 join 0 0", "calm 1"}
		for view := 0; view < lastView; view++ {
			text := strconv.Itoa(view)
			lines = append(lines, "yes "+text+" 1 2 1 join 0 0", "sure "+text+" 1 2 1 join 0 0")
			if view%keepers == bad {
				lines = append(lines, "offer "+text+" 1 2 1 join 0 0")
			}
			for _, k := range backups(bad) {
				lines = append(lines, "turn "+strconv.Itoa(k))
			}
			lines = append(lines, "calm 1")
		}
		mustEndWellAtEach(t, bad, lines)
	}
}

// talk is a session in which chance decides what comes next, and Bad says what may part the others.
type talk struct {
	c     *chance
	bad   int
	w     impl.World
	lines []string
	out   string
	heard map[[2]int]bool
	seen  map[string]int
}

func newTalk(c *chance, bad int, seen map[string]int) *talk {
	p := &talk{c: c, bad: bad, w: modelNew(bad), heard: map[[2]int]bool{}, seen: seen}
	for client := 1; client <= 1+c.below(3); client++ {
		p.line("ask", textOf(joinOf(client)))
	}
	return p
}

func (p *talk) line(words ...any) {
	line := strings.TrimSuffix(fmt.Sprintln(words...), "\n")
	next, text := modelLine(p.w, line)
	name, _, _ := strings.Cut(line, " ")
	p.seen[name+" "+text]++
	for _, r := range next.Reps {
		if n := len(r.Done); n > len(p.w.Reps[r.Me].Done) {
			p.seen[fmt.Sprint("done in a later view is ", r.View > 0)]++
		}
		if r.View > 0 && r.Live && !p.w.Reps[r.Me].Live {
			p.seen["entered"]++
		}
	}
	p.w, p.lines, p.out = next, append(p.lines, line), p.out+text+"\n"
}

func (p *talk) step() {
	to := p.c.below(keepers)
	switch n := p.c.below(100); {
	case n < 22:
		p.fake()
	case n < 26:
		for i := range 1 + p.c.below(keepers) {
			p.line("turn", (to+i)%keepers)
		}
	case n < 29:
		p.line("ask", textOf(joinOf(1+p.c.below(4))))
	case n < 31:
		p.line("calm", p.c.below(5))
	case n < 34:
		p.line([]string{"view", "done", "game", "said", "agree", "what", "calm"}[p.c.below(7)], p.c.below(5))
	default:
		p.hearNew(to)
	}
}

// fake is about a claim that others spoke of, or one near it.
func (p *talk) fake() {
	x := claim(1+p.c.below(2), p.c.below(3), joinOf(1+p.c.below(3)))
	for range 6 {
		if m := p.w.Said[p.c.below(len(p.w.Said))]; m.Kind >= 2 && m.Kind <= 4 {
			x = claim(m.Seq, m.View, m.Req)
			break
		}
	}
	name := []string{"yes", "sure", "offer"}[p.c.below(3)]
	if name == "offer" {
		x.View, x.Req = p.bad, joinOf(1+p.c.below(2))
	} else if p.c.below(8) == 0 {
		x.Req = impl.Req{}
	}
	p.line(name, x.View, x.Seq, textOf(x.Req))
}

// hearNew has the replica receive a message that it has not received, mostly one of the last.
func (p *talk) hearNew(to int) {
	for range 40 {
		at := len(p.w.Said) - 1 - min(p.c.below(len(p.w.Said)), p.c.below(len(p.w.Said)))
		if !p.heard[[2]int{at, to}] {
			p.heard[[2]int{at, to}] = true
			p.line("hear", at, to)
			return
		}
	}
}

// TestP44AnyTalk holds each session against the model, and some also against P43 and at each prefix.
func TestP44AnyTalk(t *testing.T) {
	c, seen := &chance{state: 44}, map[string]int{}
	for i := range 480 {
		p := newTalk(c, i%keepers, seen)
		for len(p.lines) < sessionMax-9 {
			p.step()
		}
		if out := sessionOf(t, p.bad, p.lines); out != p.out {
			t.Fatalf("Bad is %d, the output of\n%q\nis\n%q\nwant\n%q", p.bad, p.lines, out, p.out)
		}
		mustEndWell(t, p.bad, p.lines)
		if i < 24 {
			mustEndWellAtEach(t, p.bad, p.lines)
			checkP43(t, p.bad, append(p.lines, lookLines()...))
		}
	}
	for _, want := range []string{
		"ask ok", "ask no", "hear ok", "hear no", "turn ok", "turn no", "offer ok", "offer no", "yes ok", "yes no", "sure ok", "sure no",
		"calm ok", "calm what", "done what", "view what", "view 0 ok", "view 1 no", "agree what", "said what",
		"done in a later view is false", "done in a later view is true", "entered",
	} {
		if seen[want] == 0 {
			t.Errorf("%q was never seen: %v", want, seen)
		}
	}
}

// TestP44AnyLines has sessions of lines that know nothing of the world.
func TestP44AnyLines(t *testing.T) {
	c := &chance{state: 4}
	for i := range 400 {
		var lines []string
		for range sessionMax - 5 {
			lines = append(lines, anyLine(c))
		}
		session(t, i%keepers, lines...)
		mustEndWell(t, i%keepers, lines)
	}
}

func anyLine(c *chance) string {
	name := []string{"ask", "hear", "turn", "offer", "yes", "sure", "calm", "done", "view", "game", "said", "agree"}[c.below(12)]
	words := []string{name}
	n := map[string]int{"ask": 0, "hear": 2, "offer": 2, "yes": 2, "sure": 2, "said": 0, "agree": 0}
	many, ok := n[name]
	if !ok {
		many = 1
	}
	for range many {
		words = append(words, []string{"0", "1", "2", "3", "4", "5", "10", "-1", "x"}[c.below(9)])
	}
	if name == "ask" || name == "offer" || name == "yes" || name == "sure" {
		words = append(words, []string{"1 1 join 0 0", "2 1 join 0 0", "1 2 take 0 0", "none", "1 1 join 1 0"}[c.below(5)])
	}
	return strings.Join(words, " ")
}
