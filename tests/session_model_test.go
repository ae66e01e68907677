package tests

import (
	"regexp"
	"slices"
	"strconv"
	"strings"
	"sync"

	"loop.example/wapentake/impl"
)

// The rules of the chapter on sessions told a second time, with one pattern for each command. What happens in the world is left to the model of the network.

// nowhere is no replica, no message, no view and whatever else a number may be asked for.
const nowhere = 1000

var modelNumberText = regexp.MustCompile(`^(0|-?[1-9][0-9]?)$`)

func modelNumber(s string) int {
	if !modelNumberText.MatchString(s) {
		return nowhere
	}
	n, _ := strconv.Atoi(s)
	return n
}

var modelReqTexts = sync.OnceValue(func() map[string]impl.Req {
	texts := map[string]impl.Req{"none": {}}
	for _, r := range allAsks() {
		texts[textOf(r)] = r
	}
	return texts
})

type modelCommand struct {
	line *regexp.Regexp
	// answer is given what stands in the groups of the line.
	answer func(w impl.World, g []string) (impl.World, string)
}

// modelCommands has a group for each word of a command, and (?s) so that a newline is a byte as any other.
var modelCommands = []modelCommand{
	{regexp.MustCompile(`(?s)^ask (.*)$`), modelAskLine},
	{regexp.MustCompile(`^hear ([^ ]*) ([^ ]*)$`), func(w impl.World, g []string) (impl.World, string) {
		return modelEventLine(w, hearEvent(modelNumber(g[0]), modelNumber(g[1])))
	}},
	{regexp.MustCompile(`^turn ([^ ]*)$`), func(w impl.World, g []string) (impl.World, string) {
		return modelEventLine(w, turnEvent(modelNumber(g[0])))
	}},
	{regexp.MustCompile(`(?s)^(offer|yes|sure) ([^ ]*) ([^ ]*) (.*)$`), modelFakeLine},
	{regexp.MustCompile(`^calm ([^ ]*)$`), modelCalmLine},
	{regexp.MustCompile(`^agree$`), func(w impl.World, _ []string) (impl.World, string) { return w, modelYesNo(modelAgree(w)) }},
	{regexp.MustCompile(`^said$`), func(w impl.World, _ []string) (impl.World, string) { return w, strconv.Itoa(len(w.Said)) }},
	{regexp.MustCompile(`^(done|view|game) ([^ ]*)$`), modelKeeperLine},
}

func modelYesNo(ok bool) string {
	return map[bool]string{true: "ok", false: "no"}[ok]
}

func modelEventLine(w impl.World, e impl.Event) (impl.World, string) {
	next, ok := modelDo(w, e)
	return next, modelYesNo(ok)
}

func modelAskLine(w impl.World, g []string) (impl.World, string) {
	r, ok := modelReqTexts()[g[0]]
	if !ok {
		return w, "what"
	}
	return modelEventLine(w, askEvent(r))
}

func modelFakeLine(w impl.World, g []string) (impl.World, string) {
	r, ok := modelReqTexts()[g[3]]
	if !ok {
		return w, "what"
	}
	kind := 2 + slices.Index([]string{"offer", "yes", "sure"}, g[0])
	return modelEventLine(w, fakeEvent(about(kind, w.Bad, claim(modelNumber(g[2]), modelNumber(g[1]), r))))
}

func modelCalmLine(w impl.World, g []string) (impl.World, string) {
	n := modelNumber(g[0])
	if n < 0 || n > calmMax {
		return w, "what"
	}
	return modelCalm(w, n), "ok"
}

func modelKeeperLine(w impl.World, g []string) (impl.World, string) {
	k := modelNumber(g[1])
	if k < 0 || k >= keepers {
		return w, "what"
	}
	switch r := w.Reps[k]; g[0] {
	case "done":
		var texts []string
		for _, done := range modelRepList(r) {
			texts = append(texts, textOf(done))
		}
		return w, strings.Join(texts, "|")
	case "view":
		return w, strconv.Itoa(r.View) + " " + modelYesNo(r.Live)
	}
	return w, impl.GamePut(modelGame(w, k))
}

func modelLine(w impl.World, line string) (impl.World, string) {
	for _, c := range modelCommands {
		if g := c.line.FindStringSubmatch(line); g != nil {
			return c.answer(w, g[1:])
		}
	}
	return w, "what"
}

func modelSession(bad int, lines []string) string {
	if bad < 0 || bad >= keepers {
		return "wrong\n"
	}
	w := modelNew(bad)
	out := ""
	for _, line := range lines[:min(len(lines), sessionMax)] {
		next, text := modelLine(w, line)
		w, out = next, out+text+"\n"
	}
	return out
}
