package tests

import (
	"slices"
	"strings"
	"testing"

	"loop.example/g00789/impl"
)

func wantScript(t *testing.T, name string, got impl.ScriptResult, want impl.ScriptResult) {
	t.Helper()
	if !sameScripts(got, want) {
		t.Errorf("%s:\n got %d %q %v\nwant %d %q %v", name, got.Code, got.Said, got.Events, want.Code, want.Said, want.Events)
	}
}

// lineCase is a line behind some events of one slot, with busy plans, and what is
// said then or the code. Where an event comes by it, that is told, too.
type lineCase struct {
	name   string
	events []impl.Event
	line   string
	said   string
	comes  []impl.Event
	code   int64
}

func checkLines(t *testing.T, slots int64, cases []lineCase) {
	t.Helper()
	for _, c := range cases {
		want := scriptDenied(c.code)
		if c.code == impl.OK {
			want = impl.ScriptResult{Said: c.said, Events: row(c.events, c.comes)}
		}
		wantScript(t, c.name, impl.StepScript(slots, busy(), c.events, c.line), want)
	}
}

// asked, comes and isRefused are what a line may come to.
func asked(name string, events []impl.Event, line string, said string) lineCase {
	return lineCase{name: name, events: events, line: line, said: said}
}

func comes(name string, events []impl.Event, line string, e impl.Event, said string) lineCase {
	return lineCase{name: name, events: events, line: line, said: said, comes: []impl.Event{e}}
}

func isRefused(name string, events []impl.Event, line string, code int64) lineCase {
	return lineCase{name: name, events: events, line: line, code: code}
}

// faults are events that have codes, whatever stands ahead of them.
func faults() []impl.Event {
	return []impl.Event{
		{}, {Kind: 3}, tickOf(0, 0), tickOf(impl.ActWork, 1), tickOf(impl.ActYield, 4), callOf(0, 0, 0, 0), callOf(impl.CallCreate, 4, 0, 0),
		callOf(impl.CallTake, 0, 12, 0), {Kind: impl.EvTick, Act: work.Act, Call: createHonest.Call}, tickOf(lowest, highest), callOf(mark, mark, mark, mark),
	}
}

func TestLinesThatSayNothing(t *testing.T) {
	for _, line := range []string{"", " ", "     ", strings.Repeat(" ", 3000)} {
		checkLines(t, 1, []lineCase{
			asked("no events", nil, line, ""),
			asked("an empty list of events", []impl.Event{}, line, ""),
			asked("some events", row(owned(), times(9, work)), line, ""),
			asked("events that have codes", faults(), line, ""),
			asked("the most events", times(400, work), line, ""),
		})
	}
}

func TestTheTickIsTold(t *testing.T) {
	cases := []lineCase{
		asked("no events", nil, "tick", "0"),
		asked("calls alone", owned(), "tick", "0"),
		asked("one tick of nobody", times(1, work), "tick", "1"),
		asked("a window", row(owned(), times(9, giveBack)), "tick", "9"),
		asked("ten ticks", row(lent(), times(10, toHonest)), "tick", "10"),
		asked("events that have codes", faults(), "tick", "0"),
		asked("ticks between events that have codes", row(faults(), times(2, work), faults(), times(1, giveBack), faults()), "tick", "3"),
		asked("calls that are refused", row(owned(), times(3, createHonest), times(2, work), times(3, takeOf(1, 0))), "tick", "2"),
		asked("the most events", times(400, work), "tick", "400"),
		asked("the most events, some of which are calls", row(owned(), times(397, work)), "tick", "397"),
	}
	checkLines(t, 1, cases)
	checkLines(t, 12, cases[:4])
}

func TestWhoIsTold(t *testing.T) {
	forcedOnce := row(lent(), times(9, work))
	checkLines(t, 1, []lineCase{
		asked("no events", nil, "who", "nobody"),
		asked("a slot that is free", owned()[:2], "who", "nobody"),
		asked("the owner ahead of its window", owned(), "who", "0"),
		asked("another owner ahead of its window", lent(), "who", "1"),
		asked("the last one", []impl.Event{callOf(impl.CallCreate, 3, 0, 0), takeOf(3, 0)}, "who", "3"),
		asked("the owner within its window", row(owned(), times(1, work)), "who", "0"),
		asked("the owner up to its time", row(owned(), times(6, work)), "who", "0"),
		asked("nobody behind a return", row(owned(), times(7, work)), "who", "nobody"),
		asked("the owner of the next window", row(owned(), times(9, work)), "who", "0"),
		asked("another one to whom it was yielded", row(lent(), times(1, toHonest)), "who", "0"),
		asked("another one that is late", row(lent(), times(8, work)), "who", "1"),
		asked("nobody, since the owner owes", forcedOnce, "who", "nobody"),
		asked("nobody, while the owner skips", row(forcedOnce, times(4, work)), "who", "nobody"),
		asked("the owner behind that", row(forcedOnce, times(9, work)), "who", "1"),
		asked("who is destroyed while it runs", row(lent(), times(1, work), []impl.Event{callOf(impl.CallDestroy, 1, 0, 0)}), "who", "nobody"),
		asked("events that have codes", row(faults(), lent(), faults(), times(1, work), faults()), "who", "1"),
		asked("the most events", row(lent(), times(397, giveBack)), "who", "nobody"),
	})
	both := row(owned(), []impl.Event{takeOf(1, 1)})
	checkLines(t, 2, []lineCase{
		asked("the first of two", both, "who", "0"),
		asked("the second of two", row(both, times(9, giveBack)), "who", "1"),
		asked("the second of two, which is free", row(owned(), times(9, giveBack)), "who", "nobody"),
		asked("the first of two again", row(both, times(18, giveBack)), "who", "0"),
	})
}

func TestOwnersAreTold(t *testing.T) {
	all := []impl.Event{createHonest, createOther, callOf(impl.CallCreate, 2, 0, 0), callOf(impl.CallCreate, 3, 0, 0)}
	takes := []impl.Event{takeOf(3, 0), takeOf(0, 1), takeOf(2, 2), takeOf(1, 11)}
	checkLines(t, 1, []lineCase{
		asked("no events", nil, "owners", "-"),
		asked("a slot that is free", owned()[:2], "owners", "-"),
		asked("a slot that is owned", owned(), "owners", "0"),
		asked("a slot that is moved", row(owned(), []impl.Event{callOf(impl.CallMove, 0, 0, 1)}), "owners", "1"),
		asked("a slot that is freed", row(owned(), []impl.Event{callOf(impl.CallFree, 0, 0, 0)}), "owners", "-"),
		asked("a slot of one that is destroyed", row(owned(), []impl.Event{destroyHonest}), "owners", "-"),
		asked("a slot that was to be taken", row(owned(), []impl.Event{takeOf(1, 0)}), "owners", "0"),
		asked("a slot that is lent for a while", row(lent(), times(1, toHonest)), "owners", "1"),
		asked("the most events", row(owned(), times(397, giveBack)), "owners", "0"),
	})
	checkLines(t, 2, []lineCase{
		asked("no events", nil, "owners", "- -"),
		asked("the first one", owned(), "owners", "0 -"),
		asked("both", row(owned(), []impl.Event{takeOf(1, 1)}), "owners", "0 1"),
		asked("the second one", row(all, []impl.Event{takeOf(3, 1)}), "owners", "- 3"),
	})
	checkLines(t, 12, []lineCase{
		asked("no events", nil, "owners", "- - - - - - - - - - - -"),
		asked("some of them", row(all, takes), "owners", "3 0 2 - - - - - - - - 1"),
		asked("the most of one", row(all, mostSlots()), "owners", "0 0 0 0 0 0 - - - - - -"),
	})
}

// heldByThird are windows of the second one that it yields, and that the third one
// holds on to.
func heldByThird(windows int) []impl.Event {
	window := row([]impl.Event{tickOf(impl.ActYield, 2)}, times(8, work))
	return row(lent(), []impl.Event{callOf(impl.CallCreate, 2, 0, 0)}, times(windows, window...))
}

func TestDebtsAreTold(t *testing.T) {
	given := row(lent(), times(4, row([]impl.Event{toHonest}, times(8, work))...))
	owing := heldByThird(3)
	cases := []lineCase{
		asked("one that is not there", nil, "debt 0", "0"),
		asked("the last one", nil, "debt 3", "0"),
		asked("a new one", owned(), "debt 0", "0"),
		asked("one that was forced", row(lent(), times(9, work)), "debt 1", "1"),
		asked("one that was not", row(lent(), times(9, work)), "debt 0", "0"),
		asked("one that skipped", row(lent(), times(10, work)), "debt 1", "0"),
		asked("one that is honest, whatever it is given", given, "debt 0", "0"),
		asked("one that owes 2", heldByThird(2), "debt 2", "2"),
		asked("one that owes as much as it may", owing, "debt 2", "3"),
		asked("one that owes as much as it may, and is forced again", heldByThird(4), "debt 2", "3"),
		asked("one that is destroyed", row(owing, []impl.Event{callOf(impl.CallDestroy, 2, 0, 0)}), "debt 2", "0"),
		asked("one beside that", owing, "debt 1", "0"),
		asked("events that have codes", row(faults(), lent(), faults(), times(9, work), faults()), "debt 1", "1"),
		asked("blanks around it", row(lent(), times(9, work)), "  debt   1  ", "1"),
		asked("the most events", row(lent(), times(397, giveBack)), "debt 1", "0"),
	}
	for _, number := range []string{"4", "5", "10", "99", "999999"} {
		cases = append(cases,
			isRefused("no environment", nil, "debt "+number, impl.ErrRange),
			isRefused("no environment behind some events", owing, "debt "+number, impl.ErrRange),
			isRefused("no environment behind the most events", times(400, work), " debt "+number+" ", impl.ErrRange))
	}
	checkLines(t, 1, cases)
}

func TestPicksAreTold(t *testing.T) {
	cases := []lineCase{
		asked("no events", nil, "picks", "0"),
		asked("calls alone", owned(), "picks", "0"),
		asked("one tick", row(owned(), times(1, work)), "picks", "1"),
		asked("a window", row(owned(), times(9, work)), "picks", "6"),
		asked("two windows", row(owned(), times(18, giveBack)), "picks", "12"),
		asked("a window of another one", row(lent(), times(9, work)), "picks", "0"),
		asked("a window that is given", row(lent(), []impl.Event{toHonest}, times(8, work)), "picks", "5"),
		asked("events that have codes", row(faults(), owned(), faults(), times(4, work), faults()), "picks", "4"),
		asked("one that is destroyed", row(owned(), times(4, work), []impl.Event{destroyHonest}), "picks", "4"),
		asked("the most events", row(owned(), times(397, work)), "picks", "45"),
	}
	checkLines(t, 1, cases)
	few := []impl.Plan{planOf(1)}
	events := row(owned(), times(20, work))
	wantScript(t, "nobody is ready any more", impl.StepScript(1, few, events, "picks"), impl.ScriptResult{Said: "1", Events: events})
}

// An ask with a number too many is none, and so is one with a number too few or with
// one that is none: it cannot be read, and whether it would be in its bounds is not asked.
func TestAsksThatAreNone(t *testing.T) {
	lines := []string{"debt", "debt ", "debt 0 0", "debt 4 0", "debt 0 4", "debt 9 9", "debt 1 2 3", "debt debt", "debt E", "debt who", "debt1", "debt\t1", "Debt 1"}
	for _, no := range noNumbers {
		lines = append(lines, "debt "+no, "debt 1 "+no, "debt "+no+" 1", "debt 9 "+no)
	}
	for _, ask := range []string{"tick", "who", "owners", "picks"} {
		for _, more := range []string{"0", "1", "3", "4", "999999", "1000000", "-1", "x", ask, "0 0", "1 2 3"} {
			lines = append(lines, ask+" "+more, " "+ask+"  "+more+" ", more+" "+ask)
		}
		lines = append(lines, strings.ToUpper(ask), ask+"s", ask[:2], ask+"0", ask+"\t", ask+"\x00", ask+"\r", ask+";", "\t"+ask, ask+" tick", ask+"\n", "\n"+ask, ask+" \n")
	}
	var cases []lineCase
	for _, line := range lines {
		cases = append(cases,
			isRefused("no events", nil, line, impl.ErrText),
			isRefused("some events", row(owned(), times(12, work)), line, impl.ErrText),
			isRefused("the most events", times(400, work), line, impl.ErrText))
	}
	checkLines(t, 1, cases)
}

func TestLinesOfCalls(t *testing.T) {
	both := owned()[:2]
	checkLines(t, 1, []lineCase{
		comes("the first one", nil, "create 0", createHonest, "ok"),
		comes("the last one", nil, "create 3", callOf(impl.CallCreate, 3, 0, 0), "ok"),
		comes("another one", owned()[:1], "create 1", createOther, "ok"),
		comes("one that is gone", both, "destroy 1", callOf(impl.CallDestroy, 1, 0, 0), "ok"),
		comes("one that runs is gone", row(owned(), times(1, work)), "destroy 0", destroyHonest, "ok"),
		comes("one that comes again", row(both, []impl.Event{destroyHonest}), "create 0", createHonest, "ok"),
		comes("a slot that is taken", both, "take 0 0", takeOf(0, 0), "ok"),
		comes("a slot that is free again", owned(), "free 0 0", callOf(impl.CallFree, 0, 0, 0), "ok"),
		comes("a slot that is moved", owned(), "move 0 0 1", callOf(impl.CallMove, 0, 0, 1), "ok"),
		comes("a slot that is moved to its owner", owned(), "move 0 0 0", callOf(impl.CallMove, 0, 0, 0), "ok"),
		comes("blanks", both, "  take   0  0   ", takeOf(0, 0), "ok"),
		comes("a line as long as it may be", both, strings.Repeat(" ", 2992)+"take 0 0", takeOf(0, 0), "ok"),
		comes("events that have codes", faults(), "create 0", createHonest, "ok"),
		comes("events that have codes, ahead and behind", row(faults(), both, faults()), "take 1 0", takeOf(1, 0), "ok"),
		comes("calls that were refused", row(times(3, createHonest), times(2, takeOf(1, 0))), "take 0 0", takeOf(0, 0), "ok"),
		comes("the last event that may come", times(399, work), "create 2", callOf(impl.CallCreate, 2, 0, 0), "ok"),
		comes("the last event that may come, behind others that have codes", make([]impl.Event, 399), "create 2", callOf(impl.CallCreate, 2, 0, 0), "ok"),
	})
	checkLines(t, 12, []lineCase{
		comes("the last slot", both, "take 1 11", takeOf(1, 11), "ok"),
		comes("the last slot is moved", row(both, []impl.Event{takeOf(1, 11)}), "move 1 11 0", callOf(impl.CallMove, 1, 11, 0), "ok"),
	})
}

func TestLinesOfCallsThatAreRefused(t *testing.T) {
	both := owned()[:2]
	checkLines(t, 1, []lineCase{
		isRefused("it is there", both, "create 0", impl.ErrTaken),
		isRefused("it is not there", both, "destroy 2", impl.ErrNone),
		isRefused("nobody is there", nil, "destroy 0", impl.ErrNone),
		isRefused("who takes is not there", nil, "take 0 0", impl.ErrNone),
		isRefused("there is no such slot", both, "take 0 1", impl.ErrNone),
		isRefused("there is no such slot, though there might be", both, "take 0 11", impl.ErrNone),
		isRefused("it is somebody's", owned(), "take 1 0", impl.ErrTaken),
		isRefused("it is its own", owned(), "take 0 0", impl.ErrTaken),
		isRefused("it is another one's", owned(), "free 1 0", impl.ErrOwner),
		isRefused("it is nobody's", both, "free 1 0", impl.ErrOwner),
		isRefused("who frees is not there", owned(), "free 2 0", impl.ErrNone),
		isRefused("to whom it is moved is not there", owned(), "move 0 0 2", impl.ErrNone),
		isRefused("who moves does not own it", owned(), "move 1 0 0", impl.ErrOwner),
		isRefused("no environment", owned(), "create 4", impl.ErrRange),
		isRefused("no slot", owned(), "free 0 12", impl.ErrRange),
		isRefused("no environment to move to", owned(), "move 0 0 4", impl.ErrRange),
		isRefused("no environment to yield to", owned(), "yield 4", impl.ErrRange),
		isRefused("no word of these", owned(), "foo", impl.ErrText),
		isRefused("a number too few", owned(), "take 0", impl.ErrText),
		isRefused("a number too many", owned(), "work 0", impl.ErrText),
		isRefused("a number that is none", owned(), "create 00", impl.ErrText),
		isRefused("behind events that have codes", row(faults(), both, faults()), "create 1", impl.ErrTaken),
		isRefused("as the events ahead were", row(both, []impl.Event{createOther}), "create 1", impl.ErrTaken),
	})
	checkLines(t, 12, []lineCase{
		isRefused("it owns as many as it may", row(both, mostSlots()), "take 0 6", impl.ErrFull),
		isRefused("to whom it is moved owns as many as it may", row(both, mostSlots(), []impl.Event{takeOf(1, 11)}), "move 1 11 0", impl.ErrFull),
	})
}

func TestLinesOfTicks(t *testing.T) {
	forcedOnce := row(lent(), times(9, work))
	owing := heldByThird(4)
	owing = owing[:len(owing)-1]
	checkLines(t, 1, []lineCase{
		comes("nobody's window begins", nil, "work", work, "idle"),
		comes("nobody's window begins, given back", nil, "return", giveBack, "idle"),
		comes("nobody's window begins, yielded", owned()[:2], "yield 1", toOther, "idle"),
		comes("nobody's window goes on", times(1, work), "work", work, "ok"),
		comes("nobody's window goes on, given back", times(1, work), "return", giveBack, "ok"),
		comes("nobody's window ends", times(8, work), "work", work, "ok"),
		comes("a window begins", lent(), "work", work, "run 1"),
		comes("a window goes on", row(lent(), times(1, work)), "work", work, "ok"),
		comes("a window is given back", row(lent(), times(1, work)), "return", giveBack, "return 1"),
		comes("a window begins, and is given back", lent(), "return", giveBack, "run 1; return 1"),
		comes("a window begins, and is yielded", lent(), "yield 0", toHonest, "run 1; yield 0"),
		comes("a window begins, and is not yielded to one that is not there", lent(), "yield 3", tickOf(impl.ActYield, 3), "run 1"),
		comes("a window is yielded", row(lent(), times(2, work)), "yield 0", toHonest, "yield 0"),
		comes("a window is not yielded to who runs", row(lent(), times(2, work)), "yield 1", toOther, "ok"),
		comes("a window is not yielded too late", row(lent(), times(6, work)), "yield 0", toHonest, "ok"),
		comes("a window is given back at its last tick", row(lent(), times(8, work)), "return", giveBack, "return 1"),
		comes("a window ends, and it is forced", row(lent(), times(8, work)), "work", work, "forced 1"),
		comes("a window ends, and it is forced though it would yield", row(lent(), times(8, work)), "yield 0", toHonest, "forced 1"),
		comes("a window is skipped", forcedOnce, "work", work, "skip 1"),
		comes("a window is skipped, whatever it would do", forcedOnce, "yield 0", toHonest, "skip 1"),
		comes("a window that is skipped goes on", row(forcedOnce, times(1, work)), "return", giveBack, "ok"),
		comes("a window ends, and more than it may is owed", owing, "work", work, "dropped 2"),
		comes("events that have codes", row(faults(), lent(), faults()), "work", work, "run 1"),
		comes("calls that were refused", row(lent(), []impl.Event{createOther}, times(1, giveBack), times(5, createHonest)), "work", work, "ok"),
		comes("the last event that may come", row(lent(), times(396, giveBack)), "return", giveBack, "run 1; return 1"),
		comes("notes of what came ahead are not said again", row(lent(), times(1, giveBack)), "work", work, "ok"),
	})
}

// What stands in the line of a tick of Honest is put behind the events, but Honest
// does what it does.
func TestLinesOfTicksOfHonest(t *testing.T) {
	for _, line := range []struct {
		line string
		e    impl.Event
	}{{"work", work}, {"return", giveBack}, {"yield 0", toHonest}, {"yield 1", toOther}, {"yield 3", tickOf(impl.ActYield, 3)}} {
		checkLines(t, 1, []lineCase{
			comes("its window begins", owned(), line.line, line.e, "run 0"),
			comes("its window goes on", row(owned(), times(5, work)), line.line, line.e, "ok"),
			comes("it gives back in time", row(owned(), times(6, work)), line.line, line.e, "return 0"),
			comes("it has given back", row(owned(), times(7, work)), line.line, line.e, "ok"),
			comes("its next window begins", row(owned(), times(9, work)), line.line, line.e, "run 0"),
		})
		none := row(owned(), times(9, work))
		wantScript(t, "nobody is ready", impl.StepScript(1, []impl.Plan{planOf(1)}, none, line.line),
			impl.ScriptResult{Said: "run 0; return 0", Events: append(slices.Clone(none), line.e)})
	}
}

// Where there are as many events as may be, no event comes; what cannot be read, or
// is out of its bounds, is told ahead of that, and what would come of it is not asked.
func TestLinesBehindTheMostEvents(t *testing.T) {
	for _, events := range [][]impl.Event{times(400, work), row(owned(), times(397, giveBack)), make([]impl.Event, 400)} {
		var cases []lineCase
		for _, line := range append([]string{"create 0", "destroy 3", "take 0 0", "take 0 11", "free 1 0", "move 0 0 3", "yield 0", " work ", "  take   3  0 "}, rightLines...) {
			cases = append(cases, isRefused("an event", events, line, impl.ErrFull))
		}
		for _, line := range []string{"foo", "work 1", "create x", "create 01", "tick 1", "debt", "take 0", "create 9 9"} {
			cases = append(cases, isRefused("no event", events, line, impl.ErrText))
		}
		for _, line := range []string{"create 4", "take 0 12", "yield 9", "move 0 0 4", "debt 4"} {
			cases = append(cases, isRefused("out of its bounds", events, line, impl.ErrRange))
		}
		cases = append(cases,
			isRefused("a line feed", events, "work\n", impl.ErrText),
			isRefused("a line that is too long", events, strings.Repeat(" ", 2997)+"work", impl.ErrMany),
			asked("an ask", events, "debt 3", "0"), asked("nothing", events, " ", ""))
		checkLines(t, 1, cases)
	}
}

var longLine = "work" + strings.Repeat(" ", 2997)

// anyLines come to all that a line may come to.
func anyLines() []string {
	lines := []string{"", "   ", "foo", "create 4", "debt 4", "tick 1", "debt x", "take 0 0", "work\n", "\n", longLine, longLine + "\n", "\n" + strings.Repeat("a", 5000)}
	return slices.Concat(lines, asks, rightLines)
}

// The codes of the stack come first: slots, then plans, then how many events there
// are. The line is asked behind all of these, for line feeds ahead of its length.
func TestWhichFaultOfALineComesFirst(t *testing.T) {
	rows := [][]impl.Event{nil, {}, owned(), times(400, work), make([]impl.Event, 400)}
	tooMany := [][]impl.Event{times(401, work), make([]impl.Event, 401), make([]impl.Event, 5000)}
	wantNone := func(name string, slots int64, plans []impl.Plan, events []impl.Event, code int64) {
		t.Helper()
		for _, line := range anyLines() {
			wantScript(t, name, impl.StepScript(slots, plans, events, line), scriptDenied(code))
		}
	}
	for _, slots := range faultySlots {
		for _, events := range append(rows, tooMany...) {
			wantNone("slots", slots, busy(), events, impl.ErrMany)
		}
		for _, c := range faultyPlans {
			wantNone("slots, and "+c.name, slots, c.plans, nil, impl.ErrMany)
		}
	}
	for _, c := range faultyPlans {
		for _, events := range append(rows, tooMany...) {
			wantNone(c.name, 1, c.plans, events, c.want)
		}
	}
	for _, events := range tooMany {
		wantNone("too many events", 12, busy(), events, impl.ErrMany)
	}
	for _, events := range rows {
		checkLines(t, 1, []lineCase{
			isRefused("a line feed", events, "\n", impl.ErrText),
			isRefused("a line feed behind an event", events, "work\n", impl.ErrText),
			isRefused("a line feed behind an ask", events, "tick\n", impl.ErrText),
			isRefused("a line feed behind blanks", events, "  \n", impl.ErrText),
			isRefused("a line feed ahead", events, "\nwork", impl.ErrText),
			isRefused("a line feed in a line that is too long", events, longLine+"\n", impl.ErrText),
			isRefused("a line feed behind what is out of its bounds", events, "create 4\n", impl.ErrText),
			isRefused("a line feed behind an ask that is out of its bounds", events, "debt 4 \n", impl.ErrText),
			isRefused("a line that is too long", events, longLine, impl.ErrMany),
			isRefused("a line of blanks that is too long", events, strings.Repeat(" ", 3001), impl.ErrMany),
			isRefused("an ask that is too long", events, strings.Repeat(" ", 2997)+"tick", impl.ErrMany),
			isRefused("a line that is too long, and cannot be read", events, strings.Repeat("a ", 1501), impl.ErrMany),
			isRefused("a line that is too long, and out of its bounds", events, "create 9"+strings.Repeat(" ", 3000), impl.ErrMany),
		})
	}
}

func TestALineOfEachNumberOfSlots(t *testing.T) {
	for slots := int64(1); slots <= 12; slots++ {
		checkLines(t, slots, []lineCase{
			asked("owners", nil, "owners", strings.TrimSpace(strings.Repeat("- ", int(slots)))),
			comes("the last slot", owned(), "create 2", callOf(impl.CallCreate, 2, 0, 0), "ok"),
		})
		for _, c := range rightPlans {
			wantScript(t, c.name, impl.StepScript(slots, c.plans, owned(), "work"), impl.ScriptResult{Events: row(owned(), times(1, work)), Said: "run 0"})
		}
	}
}

// said is what a script says line by line, one behind the other.
func said(lines ...string) string {
	return strings.Join(append(lines, ""), "\n")
}

func checkScript(t *testing.T, name string, slots int64, text string, want string, events ...impl.Event) {
	t.Helper()
	wantScript(t, name, impl.RunScript(slots, busy(), text), impl.ScriptResult{Said: want, Events: events})
}

func TestScriptsOfFewLines(t *testing.T) {
	for slots := int64(1); slots <= 12; slots++ {
		checkScript(t, "an empty text", slots, "", "")
		checkScript(t, "an empty line", slots, "\n", "")
		checkScript(t, "empty lines", slots, "\n\n\n", "")
		checkScript(t, "blanks", slots, "   ", "")
		checkScript(t, "lines of blanks", slots, " \n\n   \n ", "")
		checkScript(t, "a line that has no line feed", slots, "work", said("idle"), work)
		checkScript(t, "a line that has one", slots, "work\n", said("idle"), work)
		checkScript(t, "two lines", slots, "work\ntick", said("idle", "1"), work)
		checkScript(t, "two lines, and a line feed behind", slots, "work\ntick\n", said("idle", "1"), work)
		checkScript(t, "empty lines around", slots, "\n\nwork\n\n\ntick\n\n", said("idle", "1"), work)
		checkScript(t, "blanks around", slots, "  work \n   \n tick", said("idle", "1"), work)
		checkScript(t, "a line that is refused", slots, "foo", said("! 5"))
		checkScript(t, "a line that is refused, and a line feed behind", slots, "foo\n", said("! 5"))
		checkScript(t, "an ask alone", slots, "who", said("nobody"))
		checkScript(t, "an ask that is refused", slots, "debt 4", said("! 3"))
		checkScript(t, "other ends of lines", slots, "work\r\nwork\n", said("! 5", "idle"), work)
		checkScript(t, "a tab", slots, "\twork\nwork\t1\nwork", said("! 5", "! 5", "idle"), work)
		checkScript(t, "a byte 0", slots, "\x00\nwork\x00\nwork", said("! 5", "! 5", "idle"), work)
	}
}

func TestAScriptOfAllAsks(t *testing.T) {
	events := row(owned(), []impl.Event{takeOf(1, 2)}, times(7, work))
	checkScript(t, "all asks", 3, `create 0
create 1
take 0 0
take 1 2
tick
who
owners
debt 0
debt 1
picks
work
work
work
tick
who
picks
work
work
work
work
tick
who
picks
`, said("ok", "ok", "ok", "ok", "0", "0", "0 - 1", "0", "0", "0", "run 0", "ok", "ok", "3", "0", "3", "ok", "ok", "ok", "return 0", "7", "nobody", "6"), events...)
}

func TestAScriptOfWindows(t *testing.T) {
	held := strings.Repeat("work\n", 8)
	text := "create 1\ncreate 2\ntake 1 0\nyield 2\n" + held + "debt 1\ndebt 2\nyield 2\n" + held + "yield 2\n" + held + "debt 2\nreturn\nwho\ntick\n"
	oks := slices.Repeat([]string{"ok"}, 7)
	want := slices.Concat([]string{"ok", "ok", "ok", "run 1; yield 2"}, oks, []string{"forced 2", "0", "1", "run 1; yield 2"}, oks, []string{"forced 2", "run 1; yield 2"}, oks,
		[]string{"forced 2", "3", "run 1; return 1", "nobody", "28"})
	toThird := tickOf(impl.ActYield, 2)
	events := row([]impl.Event{createOther, callOf(impl.CallCreate, 2, 0, 0), takeOf(1, 0)}, times(3, row([]impl.Event{toThird}, times(8, work))...), times(1, giveBack))
	checkScript(t, "windows", 1, text, said(want...), events...)
}

// What is refused turns nothing, and the lines behind it are done all the same.
func TestAScriptOfLinesThatAreRefused(t *testing.T) {
	checkScript(t, "between lines that are not", 2, `create 0
create 0
take 0 0
take 1 1
create 1
take 1 0
take 1 2
free 1 0
foo
create 4
work 1
tick
work
destroy 2
who 0
debt 9
debt 0 0
debt 00
move 0 0 3
move 0 0 1
owners
tick
`, said("ok", "! 6", "ok", "! 4", "ok", "! 6", "! 4", "! 7", "! 5", "! 3", "! 5", "0", "run 0", "! 4", "! 5", "! 3", "! 5", "! 5", "! 4", "ok", "1 -", "1"),
		createHonest, takeOf(0, 0), createOther, work, callOf(impl.CallMove, 0, 0, 1))
	var takes []string
	for _, slot := range []string{"0", "1", "2", "3", "4", "5", "6", "11"} {
		takes = append(takes, "take 0 "+slot)
	}
	checkScript(t, "more than it may own", 12, "create 0\n"+said(takes...)+"owners",
		said("ok", "ok", "ok", "ok", "ok", "ok", "ok", "! 8", "! 8", "0 0 0 0 0 0 - - - - - -"), row([]impl.Event{createHonest}, mostSlots()[:6])...)
	checkScript(t, "all of them", 1, "foo\ntake 0 0\ncreate 7\ndestroy 1\n", said("! 5", "! 4", "! 3", "! 4"))
}

func TestScriptsOfTheMostLines(t *testing.T) {
	works := strings.Repeat("work\n", 80)
	r := impl.RunScript(1, busy(), works)
	if r.Code != impl.OK || !slices.Equal(r.Events, times(80, work)) || strings.Count(r.Said, "idle\n") != 9 || strings.Count(r.Said, "ok\n") != 71 || len(r.Said) != 9*5+71*3 {
		t.Error("the most lines", r)
	}
	wantScript(t, "the last one without a line feed", impl.RunScript(1, busy(), strings.TrimSuffix(works, "\n")), r)
	checkScript(t, "the most empty lines", 1, strings.Repeat("\n", 80), "")
	checkScript(t, "the most lines, the last one of a blank", 1, strings.Repeat("\n", 79)+" ", "")
	checkScript(t, "the most lines, the last one an event", 1, strings.Repeat("\n", 79)+"work", said("idle"), work)
	checkScript(t, "the most lines, the first one an event", 1, "work"+strings.Repeat("\n", 80), said("idle"), work)
	checkScript(t, "the most lines that are refused", 1, strings.Repeat("foo\n", 80), strings.Repeat("! 5\n", 80))
	checkScript(t, "the most asks", 1, strings.Repeat("tick\n", 80), strings.Repeat("0\n", 80))
	for _, text := range []string{works + "\n", works + " ", works + "work", works + "\x00", strings.Repeat("\n", 81), strings.Repeat("\n", 80) + " ", strings.Repeat("\n", 3000), strings.Repeat("foo\n", 81)} {
		wantScript(t, "a line too many", impl.RunScript(1, busy(), text), scriptDenied(impl.ErrMany))
	}
}

func TestScriptsOfTheMostBytes(t *testing.T) {
	blanks := strings.Repeat(" ", 2996)
	checkScript(t, "an event and blanks", 1, "work"+blanks, said("idle"), work)
	checkScript(t, "blanks and an ask", 1, blanks+"tick", said("0"))
	checkScript(t, "blanks alone", 1, blanks+"    ", "")
	checkScript(t, "one word", 1, strings.Repeat("a", 3000), said("! 5"))
	checkScript(t, "many words", 1, strings.Repeat("a ", 1500), said("! 5"))
	checkScript(t, "a line feed at the end", 1, blanks[1:]+"work\n", said("idle"), work)
	checkScript(t, "two lines", 1, "work\n"+blanks[5:]+"tick", said("idle", "1"), work)
	full := blanks[:40] + strings.Repeat("work"+blanks[:32]+"\n", 80)
	if len(full) != 3000 {
		t.Fatal("not just as many bytes as there may be", len(full))
	}
	wantScript(t, "as many lines and bytes as there may be", impl.RunScript(1, busy(), full), impl.RunScript(1, busy(), strings.Repeat("work\n", 80)))
	for _, text := range []string{"work" + blanks + " ", blanks + "    \n", strings.Repeat("a", 3001), full + " ", strings.Repeat(full, 40), strings.Repeat("\u00e4", 1501)} {
		wantScript(t, "a byte too many", impl.RunScript(1, busy(), text), scriptDenied(impl.ErrMany))
	}
}

// The slots come first, then the plans, and the text is asked last.
func TestWhichFaultOfAScriptComesFirst(t *testing.T) {
	texts := []string{"", "\n", "work", "foo\n", "tick", strings.Repeat("\n", 80), strings.Repeat("\n", 81), strings.Repeat("work\n", 81), strings.Repeat(" ", 3000), strings.Repeat(" ", 3001), strings.Repeat("\n", 5000)}
	for _, text := range texts {
		for _, slots := range faultySlots {
			wantScript(t, "slots", impl.RunScript(slots, busy(), text), scriptDenied(impl.ErrMany))
			for _, c := range faultyPlans {
				wantScript(t, "slots, and "+c.name, impl.RunScript(slots, c.plans, text), scriptDenied(impl.ErrMany))
			}
		}
		for _, c := range faultyPlans {
			for _, slots := range []int64{1, 2, 12} {
				wantScript(t, c.name, impl.RunScript(slots, c.plans, text), scriptDenied(c.want))
			}
		}
	}
	for _, c := range rightPlans {
		wantScript(t, c.name, impl.RunScript(1, c.plans, "create 0\ntake 0 0\nwork\npicks"),
			impl.ScriptResult{Said: said("ok", "ok", "run 0", "1"), Events: []impl.Event{createHonest, takeOf(0, 0), work}})
	}
}
