package tests

import (
	"fmt"
	"slices"
	"strconv"
	"strings"

	"loop.example/g00789/impl"
)

// toldWords and those below are what the document says of scripts, read word for
// word and apart from the program.
func toldWords(line string) impl.TextsResult {
	if len(line) > 3000 {
		return impl.TextsResult{Code: impl.ErrMany}
	}
	var r impl.TextsResult
	for _, piece := range strings.Split(line, " ") {
		if piece != "" {
			r.Words = append(r.Words, piece)
		}
	}
	return r
}

// toldNumber holds the word against how the number that it might be is written.
func toldNumber(word string) impl.IntResult {
	number, err := strconv.Atoi(word)
	if err != nil || !among(int64(number), 0, 999999) || fmt.Sprint(number) != word {
		return impl.IntResult{Code: impl.ErrText}
	}
	return impl.IntResult{Value: int64(number)}
}

func toldNoteText(n impl.Note) impl.TextResult {
	if !among(n.Tick, 0, 100000) || !among(n.Env, -1, 3) || !among(n.Kind, 1, 7) {
		return impl.TextResult{Code: impl.ErrRange}
	}
	word := strings.Fields("run skip idle yield return forced dropped")[n.Kind-1]
	if n.Env == -1 {
		return impl.TextResult{Text: word}
	}
	return impl.TextResult{Text: fmt.Sprintf("%s %d", word, n.Env)}
}

// toldReads tells the numbers of words that are as a form of the document says, in
// which E, S and T are numbers.
func toldReads(form string, words []string) (numbers []int64, is bool) {
	parts := strings.Fields(form)
	if len(parts) != len(words) {
		return nil, false
	}
	for at, part := range parts {
		number := toldNumber(words[at])
		switch {
		case !slices.Contains([]string{"E", "S", "T"}, part):
			if part != words[at] {
				return nil, false
			}
		case number.Code != impl.OK:
			return nil, false
		default:
			numbers = append(numbers, number.Value)
		}
	}
	return numbers, true
}

var toldForms = []string{"create E", "destroy E", "take E S", "free E S", "move E S T", "work", "return", "yield T"}

// toldFormed is the event of a form: the first five are calls, in the order of their
// kinds, and so are the acts behind them.
func toldFormed(place int, numbers []int64) impl.Event {
	n := append(slices.Clone(numbers), 0, 0, 0)
	if place < 5 {
		return callOf(int64(place+1), n[0], n[1], n[2])
	}
	return tickOf(int64(place-4), n[0])
}

func toldEvent(line string) impl.EventResult {
	words := toldWords(line)
	if words.Code != impl.OK {
		return impl.EventResult{Code: words.Code}
	}
	for place, form := range toldForms {
		numbers, is := toldReads(form, words.Words)
		if !is {
			continue
		}
		e := toldFormed(place, numbers)
		if code := toldEventFault(e); code != impl.OK {
			return impl.EventResult{Code: code}
		}
		return impl.EventResult{Event: e}
	}
	return impl.EventResult{Code: impl.ErrText}
}

// toldOwner is how an environment is said, or who is none.
func toldOwner(env int64, none string) string {
	if env == -1 {
		return none
	}
	return fmt.Sprint(env)
}

func toldAsk(r impl.StackResult, words []string) (code int64, said string, is bool) {
	switch strings.Join(words, " ") {
	case "tick":
		return impl.OK, fmt.Sprint(r.Kernel.Tick), true
	case "who":
		return impl.OK, toldOwner(toldWhoActs(r.Kernel).Value, "nobody"), true
	case "owners":
		for _, owner := range r.Kernel.Owners {
			said += " " + toldOwner(owner, "-")
		}
		return impl.OK, said[1:], true
	case "picks":
		return impl.OK, fmt.Sprint(toldPicksIn(r).Value), true
	}
	numbers, is := toldReads("debt E", words)
	if !is {
		return impl.OK, "", false
	}
	if !among(numbers[0], 0, 3) {
		return impl.ErrRange, "", true
	}
	return impl.OK, fmt.Sprint(r.Kernel.Accounts[numbers[0]].Debt), true
}

func scriptDenied(code int64) impl.ScriptResult {
	return impl.ScriptResult{Code: code}
}

func sameScripts(a impl.ScriptResult, b impl.ScriptResult) bool {
	return a.Code == b.Code && a.Said == b.Said && slices.Equal(a.Events, b.Events)
}

func toldLine(slots int64, plans []impl.Plan, events []impl.Event, line string) impl.ScriptResult {
	r, _, _ := toldStack(slots, plans, events)
	if r.Code != impl.OK {
		return scriptDenied(r.Code)
	}
	if strings.Contains(line, "\n") {
		return scriptDenied(impl.ErrText)
	}
	words := toldWords(line)
	if words.Code != impl.OK {
		return scriptDenied(words.Code)
	}
	if len(words.Words) == 0 {
		return impl.ScriptResult{Events: slices.Clone(events)}
	}
	if code, said, is := toldAsk(r, words.Words); code != impl.OK {
		return scriptDenied(code)
	} else if is {
		return impl.ScriptResult{Events: slices.Clone(events), Said: said}
	}
	e := toldEvent(line)
	if e.Code != impl.OK {
		return scriptDenied(e.Code)
	}
	if len(events) == 400 {
		return scriptDenied(impl.ErrFull)
	}
	return toldGoesOn(slots, plans, append(slices.Clone(events), e.Event), len(r.Notes))
}

func toldGoesOn(slots int64, plans []impl.Plan, events []impl.Event, notesAhead int) impl.ScriptResult {
	r, _, _ := toldStack(slots, plans, events)
	if code := r.Codes[len(r.Codes)-1]; code != impl.OK {
		return scriptDenied(code)
	}
	if len(r.Notes) == notesAhead {
		return impl.ScriptResult{Events: events, Said: "ok"}
	}
	said := ""
	for at, n := range r.Notes[notesAhead:] {
		if at > 0 {
			said += "; "
		}
		said += toldNoteText(n).Text
	}
	return impl.ScriptResult{Events: events, Said: said}
}

func toldScript(slots int64, plans []impl.Plan, text string) impl.ScriptResult {
	if code := toldStackFault(slots, plans, nil); code != impl.OK {
		return scriptDenied(code)
	}
	if len(text) > 3000 || len(toldLines(text)) > 80 {
		return scriptDenied(impl.ErrMany)
	}
	var r impl.ScriptResult
	for _, line := range toldLines(text) {
		one := toldLine(slots, plans, r.Events, line)
		switch {
		case one.Code != impl.OK:
			r.Said += fmt.Sprintf("! %d\n", one.Code)
		case one.Said != "":
			r.Events, r.Said = one.Events, r.Said+one.Said+"\n"
		}
	}
	return r
}

// toldLines are what line feeds end, and what is behind the last one.
func toldLines(text string) (lines []string) {
	for text != "" {
		line, rest, _ := strings.Cut(text, "\n")
		lines, text = append(lines, line), rest
	}
	return lines
}
