package tests

import (
	"fmt"
	"slices"
	"strings"
	"testing"

	"loop.example/g00789/impl"
)

// checkReading asks twice for all that is told of a text alone, and writes into the
// first answer.
func checkReading(t *testing.T, text string) {
	t.Helper()
	want := toldWords(text)
	first, second := impl.WordsOf(text), impl.WordsOf(text)
	wantWords(t, text, first, want.Code, want.Words)
	scribbleOf(first.Words, "scribbled")
	wantWords(t, text+" again", second, want.Code, want.Words)
	for range 2 {
		if got, want := impl.NumberOf(text), toldNumber(text); got != want {
			t.Errorf("number of %q: %v, want %v", text, got, want)
		}
		if got, want := impl.EventOf(text), toldEvent(text); got != want {
			t.Errorf("event of %q: %v, want %v", text, got, want)
		}
	}
	if t.Failed() {
		t.FailNow()
	}
}

// checkSaid asks twice, of memory that would show a change, and holds the answers
// against what the document tells.
func checkSaid(t *testing.T, plans []impl.Plan, events []impl.Event, ask func(plans []impl.Plan, events []impl.Event) impl.ScriptResult, want impl.ScriptResult) {
	t.Helper()
	ops, wholePlans, somePlans := sparePlans(plans)
	whole, part := spareOf(events, tickOf(mark, mark))
	opsBefore, plansBefore, before := slices.Clone(ops), slices.Clone(wholePlans), slices.Clone(whole)
	first, second := ask(somePlans, part), ask(somePlans, part)
	wantScript(t, "script", first, want)
	scribbleOf(first.Events, tickOf(mark, mark))
	if !slices.Equal(ops, opsBefore) || !samePlans(wholePlans, plansBefore) || !slices.Equal(whole, before) {
		t.Fatal("an argument was turned, or is shared", plans, somePlans, events, part)
	}
	scribbleOf(ops, markedOp)
	scribbleOf(wholePlans, markedPlan)
	scribbleOf(whole, tickOf(mark, mark))
	wantScript(t, "script again", second, want)
}

func checkLine(t *testing.T, slots int64, plans []impl.Plan, events []impl.Event, line string) {
	t.Helper()
	checkSaid(t, plans, events, func(plans []impl.Plan, events []impl.Event) impl.ScriptResult {
		return impl.StepScript(slots, plans, events, line)
	}, toldLine(slots, plans, events, line))
	if t.Failed() {
		t.Fatalf("%d %v %v %q", slots, plans, events, line)
	}
}

func checkText(t *testing.T, slots int64, plans []impl.Plan, text string) {
	t.Helper()
	checkSaid(t, plans, nil, func(plans []impl.Plan, _ []impl.Event) impl.ScriptResult {
		return impl.RunScript(slots, plans, text)
	}, toldScript(slots, plans, text))
	if t.Failed() {
		t.Fatalf("%d %v %q", slots, plans, text)
	}
}

// lineOf is how an event is told; one that has a fault is told as if it had none.
func lineOf(e impl.Event) string {
	c := e.Call
	switch {
	case e.Kind == impl.EvTick && e.Act.Kind == impl.ActReturn:
		return "return"
	case e.Kind == impl.EvTick && e.Act.Kind == impl.ActYield:
		return fmt.Sprintf("yield %d", e.Act.To)
	case e.Kind == impl.EvCall && c.Kind == impl.CallCreate:
		return fmt.Sprintf("create %d", c.Env)
	case e.Kind == impl.EvCall && c.Kind == impl.CallDestroy:
		return fmt.Sprintf("destroy %d", c.Env)
	case e.Kind == impl.EvCall && c.Kind == impl.CallTake:
		return fmt.Sprintf("take %d %d", c.Env, c.Slot)
	case e.Kind == impl.EvCall && c.Kind == impl.CallFree:
		return fmt.Sprintf("free %d %d", c.Env, c.Slot)
	case e.Kind == impl.EvCall && c.Kind == impl.CallMove:
		return fmt.Sprintf("move %d %d %d", c.Env, c.Slot, c.To)
	}
	return "work"
}

// rightEvents are all events that have no fault.
func rightEvents() []impl.Event {
	events := []impl.Event{work, giveBack}
	for env := range int64(4) {
		events = append(events, tickOf(impl.ActYield, env), callOf(impl.CallCreate, env, 0, 0), callOf(impl.CallDestroy, env, 0, 0))
		for slot := range int64(12) {
			events = append(events, takeOf(env, slot), callOf(impl.CallFree, env, slot, 0))
			for to := range int64(4) {
				events = append(events, callOf(impl.CallMove, env, slot, to))
			}
		}
	}
	return events
}

// spoiledLine puts a byte into a line, takes one from it, or does so with a word.
func spoiledLine(chance *steps, line string) string {
	bytes := []byte(line)
	at := int(chance.below(int64(len(bytes) + 1)))
	of := " 0149-+xt\t\x00\xff\xc3/:"
	words := strings.Fields(line)
	switch chance.below(6) {
	case 0:
		return line[:at] + line[min(at+1, len(line)):]
	case 1:
		return line + " " + []string{"0", "1", "4", "12", "999999", "1000000", "01", "x"}[chance.below(8)]
	case 2:
		return strings.Join(words[:max(len(words)-1, 0)], " ")
	case 3:
		return strings.Repeat(" ", int(chance.below(4))) + strings.ReplaceAll(line, " ", strings.Repeat(" ", int(1+chance.below(3))))
	}
	return line[:at] + of[chance.below(int64(len(of))):][:1] + line[at:]
}

// chanceLine is mostly an event or an ask, and now and then none.
func chanceLine(chance *steps, slots int64) string {
	line := lineOf(stackEvent(chance, slots)[0])
	switch chance.below(12) {
	case 0:
		line = asks[chance.below(int64(len(asks)))]
	case 1:
		line = fmt.Sprintf("debt %d", chance.below(5))
	case 2:
		line = anyLines()[chance.below(8)]
	}
	for chance.below(8) == 0 {
		line = spoiledLine(chance, line)
	}
	return line
}

// chanceText tells events, now and then with another line in the place of one; its
// last line may have no line feed.
func chanceText(chance *steps, slots int64, events []impl.Event) string {
	var lines []string
	for _, e := range events {
		line := lineOf(e)
		if chance.below(3) == 0 {
			line = chanceLine(chance, slots)
		}
		lines = append(lines, line)
	}
	return strings.Join(lines, "\n") + strings.Repeat("\n", int(chance.below(2)))
}

// eachText calls see with many texts, long and short, beside plans of all kinds.
func eachText(rounds int64, counts []int64, see func(slots int64, plans []impl.Plan, text string)) {
	var chance steps
	eachStack(rounds, counts, func(slots int64, plans []impl.Plan, events []impl.Event) {
		see(slots, plans, chanceText(&chance, slots, events))
	})
}

// Promise 1: all texts of up to three of some bytes, and all of up to four of some words.
func TestEveryShortReading(t *testing.T) {
	of := []string{" ", "0", "1", "9", "-", "+", "a", "\t", "\n", "\x00", "\xff", "/", ":"}
	words := []string{"tick", "debt", "create", "take", "move", "work", "yield", "0", "3", "11", "12", "01", "x", "\n", ""}
	for size := range 5 {
		if size < 4 {
			eachList(size, span(0, int64(len(of))-1), func(places []int64) {
				checkReading(t, textOf(of, places, ""))
			})
		}
		eachList(size, span(0, int64(len(words))-1), func(places []int64) {
			checkReading(t, textOf(words, places, " "))
		})
	}
}

func textOf(of []string, places []int64, between string) string {
	var parts []string
	for _, place := range places {
		parts = append(parts, of[place])
	}
	return strings.Join(parts, between)
}

// Promise 1: lines that are spoiled again and again, and all numbers with up to six digits.
func TestEveryReading(t *testing.T) {
	var chance steps
	for range 100000 {
		line := chanceLine(&chance, 12)
		for chance.below(2) == 0 {
			line = spoiledLine(&chance, line)
		}
		checkReading(t, line)
	}
	for number := range int64(1000000) {
		if got := impl.NumberOf(fmt.Sprint(number)); got != (impl.IntResult{Value: number}) {
			t.Fatal(number, got)
		}
	}
	for number := range int64(100000) {
		for _, word := range []string{fmt.Sprintf("%07d", number), fmt.Sprint("0", number), fmt.Sprint("-", number), fmt.Sprint(1000000 + 7*number)} {
			wantInt(t, word, impl.NumberOf(word), impl.ErrText, 0)
		}
	}
}

// Promise 1: all notes at their bounds, inside and outside of them.
func TestEveryNoteText(t *testing.T) {
	numbers := []int64{lowest, -2, -1, 0, 1, 2, 3, 4, 5, 6, 7, 8, 99999, 100000, 100001, 1<<32 + 1, highest}
	eachList(3, numbers, func(n []int64) {
		note := noteOf(n[0], n[1], n[2])
		for range 2 {
			if got, want := impl.NoteText(note), toldNoteText(note); got != want {
				t.Fatal(note, got, "want", want)
			}
		}
	})
}

// Promise 1: each line that is right, that is none, and that is spoiled, behind rows
// of events that have codes and that have none.
func TestEveryLine(t *testing.T) {
	var chance steps
	eachStack(1000, []int64{0, 1, 9, 40, 100, 399, 400}, func(slots int64, plans []impl.Plan, events []impl.Event) {
		for range 4 {
			checkLine(t, slots, plans, events, chanceLine(&chance, slots))
		}
		lines := anyLines()
		checkLine(t, slots, plans, events, lines[chance.below(int64(len(lines)))])
		checkLine(t, slots, plans, events, spoiledLine(&chance, lines[chance.below(int64(len(lines)))]))
	})
}

// Promise 1: all lines of up to four of some words, behind a few events.
func TestEveryShortLine(t *testing.T) {
	words := []string{"tick", "who", "owners", "debt", "picks", "create", "take", "move", "yield", "work", "0", "2", "4", "x"}
	rows := [][]impl.Event{nil, row(faults()[:3], lent(), times(9, toHonest), faults()[3:])}
	for size := range 4 {
		eachList(size, span(0, int64(len(words))-1), func(places []int64) {
			for _, events := range rows {
				checkLine(t, 1, busy()[:1], events, textOf(words, places, " "))
			}
		})
	}
	for _, first := range []string{"move ", "take ", "debt ", "tick "} {
		eachList(3, []int64{0, 1, 3, 4, 12}, func(n []int64) {
			checkLine(t, 2, busy()[:1], row(owned(), []impl.Event{takeOf(1, 1)}), first+strings.Trim(fmt.Sprint(n), "[]"))
		})
	}
}

// Promise 1: each byte ahead of, within and behind a line.
func TestEveryByteOfALine(t *testing.T) {
	events := row(lent(), times(9, work))
	for b := range 256 {
		one := string([]byte{byte(b)})
		for _, line := range []string{"tick", "debt 1", "create 2", "work", "", "owners"} {
			for at := range len(line) + 1 {
				spoiled := line[:at] + one + line[at:]
				checkReading(t, spoiled)
				checkLine(t, 1, busy()[:1], events, spoiled)
				checkText(t, 1, busy()[:1], "create 1\n"+spoiled+"\nwho")
			}
		}
	}
}

// Promise 1: long and short texts beside plans without a fault.
func TestEveryScript(t *testing.T) {
	eachText(1500, []int64{0, 1, 2, 9, 20, 40, 60, 79, 80, 81}, func(slots int64, plans []impl.Plan, text string) {
		checkText(t, slots, plans, text)
	})
}

// Promise 1: every three lines of some, with and without what gives a slot ahead of them.
func TestEveryShortScript(t *testing.T) {
	of := []string{"", "create 0", "create 1", "take 1 0", "move 1 0 0", "destroy 1", "work", "return", "yield 0", "yield 1", "who", "owners", "picks", "foo", "tick 1"}
	for size := range 4 {
		eachList(size, span(0, int64(len(of))-1), func(places []int64) {
			text := textOf(of, places, "\n")
			checkText(t, 1, busy()[:1], text)
			checkText(t, 1, busy()[:1], "create 1\ntake 1 0\ncreate 0\nwork\n"+text+"\ntick\n")
		})
	}
}

// Promise 1: arguments with several faults at once.
func TestEveryScriptOfSpoiledArguments(t *testing.T) {
	var chance steps
	counts := []int64{0, 1, 30, 400, 401, 402, 1000}
	for range 2500 {
		slots := 1 + chance.below(12)
		events := stackEvents(&chance, slots, counts[chance.below(int64(len(counts)))])
		text := chanceText(&chance, slots, stackEvents(&chance, slots, chance.below(90)))
		line := chanceLine(&chance, slots)
		for chance.below(3) == 0 {
			line += []string{"\n", strings.Repeat(" ", 3001-min(len(line), 3001)), strings.Repeat("x", 3000), " 9"}[chance.below(4)]
		}
		if chance.below(5) == 0 {
			text += []string{strings.Repeat("\n", 70), strings.Repeat(" ", 2000)}[chance.below(2)]
		}
		if chance.below(4) == 0 {
			slots = faultySlots[chance.below(int64(len(faultySlots)))]
		}
		plans := chancePlans(&chance)
		for range max(chance.below(4)-1, 0) {
			plans = spoiledPlans(&chance, plans)
		}
		checkLine(t, slots, plans, events, line)
		checkText(t, slots, plans, text)
	}
}

// Promise 11: what a line tells is an event: each one that has no fault is told by a
// line, which is the event that comes where it is not refused.
func TestEachEventIsToldByALine(t *testing.T) {
	starts := [][]impl.Event{nil, owned(), row(lent(), faults()), row(lent(), times(3, work)), row(owned(), []impl.Event{takeOf(1, 11)}, times(9, work))}
	came, refused := 0, map[int64]int{}
	for _, e := range rightEvents() {
		wantEvent(t, lineOf(e), impl.OK, e)
		for _, start := range starts {
			behind := append(slices.Clone(start), e)
			got, code := impl.StepScript(12, busy(), start, lineOf(e)), impl.RunStack(12, busy(), behind).Codes[len(start)]
			if code != impl.OK {
				refused[code]++
				wantScript(t, "an event that is refused", got, scriptDenied(code))
				continue
			}
			came++
			if got.Code != impl.OK || !slices.Equal(got.Events, behind) || got.Said == "" {
				t.Fatal(e, "behind", start, "comes to", got)
			}
		}
	}
	if came < 100 || refused[impl.ErrNone] < 50 || refused[impl.ErrTaken] < 10 || refused[impl.ErrOwner] < 10 {
		t.Error("hardly ever", came, refused)
	}
}

// Promise 11: what is said is what is so: each ask is answered by what the machine
// tells of itself, and what comes of an event by its notes.
func TestWhatIsSaidIsSo(t *testing.T) {
	var chance steps
	eachStack(600, []int64{0, 9, 40, 100, 399}, func(slots int64, plans []impl.Plan, events []impl.Event) {
		r := impl.RunStack(slots, plans, events)
		ask := func(line string) string {
			got := impl.StepScript(slots, plans, events, line)
			if got.Code != impl.OK || !slices.Equal(got.Events, events) {
				t.Fatal(line, got, events)
			}
			return got.Said
		}
		so := map[string]string{"": "", "tick": fmt.Sprint(r.Kernel.Tick), "picks": fmt.Sprint(impl.PicksIn(slots, plans, events).Value), "who": "nobody"}
		if who := impl.WhoActs(r.Kernel).Value; who != nobody {
			so["who"] = fmt.Sprint(who)
		}
		so["owners"] = strings.ReplaceAll(strings.Trim(fmt.Sprint(r.Kernel.Owners), "[]"), "-1", "-")
		for env, a := range r.Kernel.Accounts {
			so[fmt.Sprint("debt ", env)] = fmt.Sprint(a.Debt)
		}
		for line, want := range so {
			if got := ask(line); got != want {
				t.Fatalf("%s: %q, want %q of %v", line, got, want, r)
			}
		}
		if e := stackEvent(&chance, slots)[0]; impl.EventFault(e) == impl.OK {
			wantScript(t, "an event", impl.StepScript(slots, plans, events, lineOf(e)), soBehind(slots, plans, append(slices.Clone(events), e), len(r.Notes)))
		}
	})
}

// soBehind is what the machine tells of the last one of these events.
func soBehind(slots int64, plans []impl.Plan, events []impl.Event, notesAhead int) impl.ScriptResult {
	r := impl.RunStack(slots, plans, events)
	if code := r.Codes[len(events)-1]; code != impl.OK {
		return scriptDenied(code)
	}
	texts := []string{}
	for _, n := range r.Notes[notesAhead:] {
		texts = append(texts, impl.NoteText(n).Text)
	}
	if len(texts) == 0 {
		texts = []string{"ok"}
	}
	return impl.ScriptResult{Events: events, Said: strings.Join(texts, "; ")}
}

// Promise 11: a script is done line by line: each line by StepScript behind the events
// that came by those ahead of it, whatever comes behind.
func TestAScriptIsDoneLineByLine(t *testing.T) {
	eachText(120, []int64{1, 9, 40, 80}, func(slots int64, plans []impl.Plan, text string) {
		all := impl.RunScript(slots, plans, text)
		if all.Code != impl.OK {
			t.Fatalf("%v %q", all, text)
		}
		var events []impl.Event
		said, ahead := "", ""
		for line := range strings.Lines(text) {
			ahead += line
			one := impl.StepScript(slots, plans, events, strings.TrimSuffix(line, "\n"))
			if one.Code != impl.OK {
				said += fmt.Sprintf("! %d\n", one.Code)
			} else if events = one.Events; one.Said != "" {
				said += one.Said + "\n"
			}
			wantScript(t, ahead, impl.RunScript(slots, plans, ahead), impl.ScriptResult{Events: events, Said: said})
		}
		wantScript(t, text, all, impl.ScriptResult{Events: events, Said: said})
		// No event that was put there was refused.
		r := impl.RunStack(slots, plans, all.Events)
		if slices.ContainsFunc(r.Codes, func(code int64) bool { return code != impl.OK }) {
			t.Fatal("a refused event came", text, r)
		}
		if t.Failed() {
			t.FailNow()
		}
	})
}

// Promise 11: a script is what its events are: the same events told alone, without
// asks, empty lines and lines that are refused, come to the same.
func TestTheEventsOfAScriptTellItAgain(t *testing.T) {
	eachText(500, []int64{9, 40, 80}, func(slots int64, plans []impl.Plan, text string) {
		all := impl.RunScript(slots, plans, text)
		var lines, notes []string
		for _, e := range all.Events {
			lines = append(lines, lineOf(e))
		}
		again := impl.RunScript(slots, plans, strings.Join(lines, "\n"))
		if again.Code != impl.OK || !slices.Equal(again.Events, all.Events) || strings.Contains(again.Said, "!") {
			t.Fatalf("%q: %v, again %v", text, all, again)
		}
		for _, n := range impl.RunStack(slots, plans, all.Events).Notes {
			notes = append(notes, impl.NoteText(n).Text)
		}
		heard := strings.FieldsFunc(again.Said, func(r rune) bool { return r == '\n' || r == ';' })
		for at := range heard {
			heard[at] = strings.TrimSpace(heard[at])
		}
		heard = slices.DeleteFunc(heard, func(word string) bool { return word == "ok" })
		if !slices.Equal(heard, notes) {
			t.Fatalf("%q: heard %v, but %v is so", text, heard, notes)
		}
	})
}

// The texts come to nearly all that a script may say.
func TestTheScriptsAreOfManyKinds(t *testing.T) {
	met := map[string]int{}
	eachText(1500, []int64{20, 40, 60, 80}, func(slots int64, plans []impl.Plan, text string) {
		r := impl.RunScript(slots, plans, text)
		for line := range strings.Lines(r.Said) {
			words := strings.Fields(line)
			met[words[0]]++
			if words[0] == "!" {
				met[strings.TrimSpace(line)]++
			}
			if strings.Contains(line, "; ") {
				met["several"]++
			}
		}
	})
	for _, kind := range []string{"ok", "run", "skip", "idle", "yield", "return", "forced", "nobody", "-", "0", "several", "! 3", "! 4", "! 5", "! 6", "! 7"} {
		if met[kind] < 50 {
			t.Error("hardly ever", kind, met)
		}
	}
}
