package tests

import (
	"slices"
	"testing"

	"loop.example/g00789/impl"
)

func TestNumbersOfAudits(t *testing.T) {
	if impl.MaxWait != 45 {
		t.Error("the longest wait", impl.MaxWait)
	}
}

func TestCountNotes(t *testing.T) {
	notes := []impl.Note{
		began(0, 0), forced(8, 0), began(9, 1), yielded(10, 0), returned(12, 0), idled(18), skipped(27, 0), began(36, 1), idled(45), began(54, 1),
		noteOf(62, 1, impl.NoteDropped), noteOf(lowest, 9, highest), noteOf(highest, 9, highest), noteOf(0, lowest, 0), {},
	}
	cases := []struct {
		name      string
		notes     []impl.Note
		env, kind int64
		want      int64
	}{
		{"nil", nil, 0, impl.NoteRun, 0},
		{"no notes", []impl.Note{}, 0, impl.NoteRun, 0},
		{"no notes of all zeros", nil, 0, 0, 0},
		{"one", notes, 0, impl.NoteRun, 1},
		{"three", notes, 1, impl.NoteRun, 3},
		{"a skip", notes, 0, impl.NoteSkip, 1},
		{"a yield", notes, 0, impl.NoteYield, 1},
		{"a return", notes, 0, impl.NoteReturn, 1},
		{"one forced", notes, 0, impl.NoteForced, 1},
		{"one dropped", notes, 1, impl.NoteDropped, 1},
		{"of nobody", notes, nobody, impl.NoteIdle, 2},
		{"a kind that nobody has", notes, nobody, impl.NoteRun, 0},
		{"a kind that this one does not have", notes, 1, impl.NoteForced, 0},
		{"an idle of one that has none", notes, 0, impl.NoteIdle, 0},
		{"one that has no notes", notes, 2, impl.NoteRun, 0},
		{"one that is none", notes, 4, impl.NoteRun, 0},
		{"one that is none, but has notes", notes, 9, highest, 2},
		{"the lowest one", notes, lowest, 0, 1},
		{"the highest one", notes, highest, impl.NoteRun, 0},
		{"a kind that is none", notes, 0, 8, 0},
		{"the kind 0", notes, 0, 0, 1},
		{"the lowest kind", notes, 0, lowest, 0},
		{"a kind beyond 32 bits", notes, 0, 1<<32 + impl.NoteRun, 0},
		{"the same one many times", slices.Repeat(notes[:1], 5000), 0, impl.NoteRun, 5000},
		{"the notes of a run", impl.RunKernel(1, row(owned(), times(30, work))).Notes, 0, impl.NoteRun, 2},
	}
	for _, c := range cases {
		if got := impl.CountNotes(c.notes, c.env, c.kind); got != c.want {
			t.Errorf("%s: %d, want %d", c.name, got, c.want)
		}
	}
}

func wantInts(t *testing.T, name string, got impl.IntsResult, code int64, list []int64) {
	t.Helper()
	if got.Code != code || !slices.Equal(got.List, list) {
		t.Errorf("%s: %v, want %d %v", name, got, code, list)
	}
}

func wantMuted(t *testing.T, name string, got impl.MutedResult, code int64, events []impl.Event) {
	t.Helper()
	if got.Code != code || !slices.Equal(got.Events, events) {
		t.Errorf("%s:\n got %v\nwant %d %v", name, got, code, events)
	}
}

// span are the ticks from one to another one.
func span(from int64, to int64) (ticks []int64) {
	for tick := from; tick <= to; tick++ {
		ticks = append(ticks, tick)
	}
	return ticks
}

// mutedBut are events that are all turned but for those ticks that are kept.
func mutedBut(events []impl.Event, kept []int64, kind int64) []impl.Event {
	muted, tick := slices.Clone(events), int64(0)
	for at, e := range events {
		if e.Kind != impl.EvTick || toldEventFault(e) != impl.OK {
			continue
		}
		if !slices.Contains(kept, tick) {
			muted[at].Act = impl.Act{Kind: kind}
		}
		tick++
	}
	return muted
}

// auditCase is told by how many windows env had, when it acted, and when it would
// act if all others were muted.
type auditCase struct {
	name    string
	events  []impl.Event
	env     int64
	windows int64
	runs    []int64
	kept    []int64
}

func checkAudits(t *testing.T, slots int64, cases []auditCase) {
	t.Helper()
	for _, c := range cases {
		wantInt(t, c.name, impl.WindowsOf(slots, c.events, c.env), impl.OK, c.windows)
		wantInts(t, c.name, impl.RunsOf(slots, c.events, c.env), impl.OK, c.runs)
		if !impl.IsBalanced(slots, c.events, c.env) {
			t.Error(c.name, "is not balanced")
		}
		for kind := int64(impl.ActWork); kind <= impl.ActReturn; kind++ {
			muted := mutedBut(c.events, c.kept, kind)
			wantMuted(t, c.name, impl.MutedEvents(slots, c.events, c.env, kind), impl.OK, muted)
			wantInts(t, c.name+", muted", impl.RunsOf(slots, muted, c.env), impl.OK, c.kept)
			wantMuted(t, c.name+", muted twice", impl.MutedEvents(slots, muted, c.env, kind), impl.OK, muted)
		}
	}
}

// alike is a case in which it does not matter to env what others do.
func alike(name string, events []impl.Event, env int64, windows int64, runs ...int64) auditCase {
	return auditCase{name, events, env, windows, runs, runs}
}

func TestAuditsOfNothing(t *testing.T) {
	for slots := int64(1); slots <= 12; slots++ {
		for env := range int64(4) {
			checkAudits(t, slots, []auditCase{
				alike("nil", nil, env, 0),
				alike("no events", []impl.Event{}, env, 0),
				alike("calls alone", owned(), env, 0),
				alike("nobody is there", times(20, work, giveBack, toOther), env, 0),
				alike("events that are none", make([]impl.Event, 400), env, 0),
			})
		}
	}
}

func TestAuditsOfItsOwnWindows(t *testing.T) {
	checkAudits(t, 1, []auditCase{
		alike("the first tick", row(owned(), times(1, work)), 0, 1, 0),
		alike("up to its end", row(owned(), times(9, work)), 0, 1, span(0, 8)...),
		alike("it is forced, and skips", row(owned(), times(18, work)), 0, 2, span(0, 8)...),
		alike("it is forced, and begins to skip", row(owned(), times(10, work)), 0, 2, span(0, 8)...),
		alike("it skips, and runs again", row(owned(), times(19, work)), 0, 3, join(span(0, 8), span(18, 18))...),
		alike("it gives back at once", row(owned(), times(19, giveBack)), 0, 3, 0, 9, 18),
		alike("it gives back at the last tick in time", row(owned(), times(5, work), times(14, giveBack)), 0, 3, join(span(0, 5), span(9, 9), span(18, 18))...),
		alike("it gives back at the last tick", row(owned(), times(8, work), times(1, giveBack), times(9, work)), 0, 2, span(0, 17)...),
		alike("another one has none", row(owned(), times(19, work)), 1, 0),
		alike("one that is not there has none", row(owned(), times(19, work)), 3, 0),
		alike("they are another one's", row(lent(), times(19, work)), 0, 0),
		alike("which has them", row(lent(), times(19, work)), 1, 3, join(span(0, 8), span(18, 18))...),
		alike("the last one has them", row([]impl.Event{callOf(impl.CallCreate, 3, 0, 0), takeOf(3, 0)}, times(19, giveBack)), 3, 3, 0, 9, 18),
		alike("it works where there is nobody to yield to", row(owned(), times(9, tickOf(impl.ActYield, 2)), times(10, work)), 0, 3, join(span(0, 8), span(18, 18))...),
		alike("it does not yield to itself", row(owned(), times(9, toHonest), times(10, work)), 0, 3, join(span(0, 8), span(18, 18))...),
	})
}

func TestAuditsOfMoreSlots(t *testing.T) {
	both := row(owned(), []impl.Event{takeOf(1, 1)})
	checkAudits(t, 2, []auditCase{
		alike("the first of two", row(both, times(37, work)), 0, 3, join(span(0, 8), span(36, 36))...),
		alike("the second of two", row(both, times(37, work)), 1, 2, span(9, 17)...),
		alike("the second of two, up to the next round but one", row(both, times(46, work)), 1, 3, join(span(9, 17), span(45, 45))...),
		alike("both of two", row([]impl.Event{createHonest, takeOf(0, 0), takeOf(0, 1)}, times(28, giveBack)), 0, 4, 0, 9, 18, 27),
		alike("the first of two, and the other one is free", row(owned(), times(28, giveBack)), 0, 2, 0, 18),
		alike("nothing of two", row(both, times(37, work)), 2, 0),
	})
	checkAudits(t, 12, []auditCase{
		alike("the last of twelve", row([]impl.Event{createHonest, takeOf(0, 11)}, times(120, giveBack)), 0, 1, 99),
		alike("the most of twelve", row([]impl.Event{createHonest}, mostSlots(), times(120, giveBack)), 0, 8, 0, 9, 18, 27, 36, 45, 108, 117),
	})
}

// mostSlots takes as many slots as one may own, from the first one on, and one more.
func mostSlots() (calls []impl.Event) {
	for slot := range int64(impl.MaxOwn + 1) {
		calls = append(calls, takeOf(0, slot))
	}
	return calls
}

// What it yields it does not act in any more, and is not punished for.
func TestAuditsOfWindowsThatItGives(t *testing.T) {
	for phase := range int64(9) {
		events := row(owned(), times(int(phase), work), times(1, toOther), times(18-int(phase), work))
		gives := alike("it yields in time", events, 0, 3, join(span(0, phase), span(9, 17))...)
		takes := auditCase{"it is yielded to", events, 1, 0, span(phase+1, 8), nil}
		if phase >= 6 {
			gives = alike("it yields too late", events, 0, 3, join(span(0, 8), span(18, 18))...)
			takes = alike("it is yielded to too late", events, 1, 0)
		}
		checkAudits(t, 1, []auditCase{gives, takes})
	}
}

// What others yield to it, and do with what it yields, is not there any more when
// they are muted; and so neither is what it would owe for that, or not owe.
func TestAuditsOfWindowsThatAreGivenToIt(t *testing.T) {
	third, toThird := callOf(impl.CallCreate, 2, 0, 0), tickOf(impl.ActYield, 2)
	handed := row(lent(), []impl.Event{third, work, toHonest, work, toThird, work, toHonest}, times(4, work))
	kept := row(lent(), times(4, row([]impl.Event{toHonest}, times(8, work))...), []impl.Event{callOf(impl.CallMove, 1, 0, 0)}, times(28, work))
	keptRuns := join(span(1, 8), span(10, 17), span(19, 26), span(28, 35), span(63, 63))
	checkAudits(t, 1, []auditCase{
		{"and it gives it back at once", row(lent(), []impl.Event{work, toHonest, giveBack}, times(7, work)), 0, 0, []int64{2}, nil},
		{"and yields it back", row(lent(), []impl.Event{toHonest, toOther}, times(8, work)), 0, 0, []int64{1}, nil},
		alike("and yields it back to who owns it", row(lent(), []impl.Event{toHonest, toHonest}, times(8, work)), 1, 2, 0, 9),
		{"after it yielded, and so it owes", row(owned(), []impl.Event{toOther, toHonest}, times(17, work)), 0, 3, join([]int64{0}, span(2, 8), span(18, 18)), join([]int64{0}, span(9, 17))},
		{"from hand to hand", handed, 0, 0, []int64{2, 3, 6, 7, 8}, nil},
		{"from hand to hand, by the third", handed, 2, 0, []int64{4, 5}, nil},
		alike("from hand to hand, by who owns it", handed, 1, 2, 0, 1, 9),
		{"and it is forced three times, dropped, and skips what is its own", kept, 0, 4, keptRuns, join(span(36, 44), span(54, 62))},
		alike("by one that does not owe for it", kept, 1, 4, 0, 9, 18, 27),
	})
	if notes := impl.RunKernel(1, kept).Notes; toldNotes(notes, 0, impl.NoteForced) != 3 || toldNotes(notes, 0, impl.NoteDropped) != 1 || toldNotes(notes, 0, impl.NoteSkip) != 3 {
		t.Error("not forced, dropped and skipped", notes)
	}
}

// Its windows are those that begin while the slot is its own, and it acts up to
// their end though the slot may go.
func TestAuditsOfSlotsThatGo(t *testing.T) {
	move, back, free := callOf(impl.CallMove, 0, 0, 1), callOf(impl.CallMove, 1, 0, 0), callOf(impl.CallFree, 0, 0, 0)
	between := row(owned(), times(9, giveBack), []impl.Event{move}, times(9, work), []impl.Event{back}, times(9, giveBack))
	checkAudits(t, 1, []auditCase{
		alike("between windows, and come back", between, 0, 2, 0, 18),
		alike("between windows, to another one", between, 1, 1, span(9, 17)...),
		alike("ahead of the first tick", row(owned(), []impl.Event{move}, times(10, work)), 0, 0),
		alike("and are taken again ahead of the first tick", row(owned(), []impl.Event{free, takeOf(0, 0)}, times(9, work)), 0, 1, span(0, 8)...),
		alike("behind the last tick", row(owned(), times(9, work), []impl.Event{move}), 0, 1, span(0, 8)...),
		alike("behind the last tick, to another one", row(owned(), times(9, work), []impl.Event{move}), 1, 0),
	})
	for phase := 1; phase < 9; phase++ {
		moved := row(owned(), times(phase, work), []impl.Event{move}, times(10-phase, work))
		freed := row(owned(), times(phase, work), []impl.Event{free}, times(10-phase, work))
		taken := row(owned(), times(phase, work), []impl.Event{free, takeOf(1, 0)}, times(10-phase, work))
		again := row(owned(), times(phase, work), []impl.Event{move, back}, times(10-phase, work))
		checkAudits(t, 1, []auditCase{
			alike("within a window", moved, 0, 1, span(0, 8)...),
			alike("within a window, to another one", moved, 1, 1, 9),
			alike("within a window, and are free", freed, 0, 1, span(0, 8)...),
			alike("within a window, and are taken by another one", taken, 1, 1, 9),
			alike("within a window, and come back", again, 0, 2, span(0, 8)...),
		})
	}
}

// Who is destroyed loses its window and its debt; what it did by then counts, and so
// does what it does when it is there again.
func TestAuditsOfOneThatIsDestroyed(t *testing.T) {
	comesAgain := []impl.Event{destroyHonest, createHonest, takeOf(0, 0)}
	inDebt := row(owned(), times(9, work), comesAgain, times(19, work))
	checkAudits(t, 1, []auditCase{
		alike("ahead of its window", row(owned(), []impl.Event{destroyHonest}, times(10, work)), 0, 0),
		alike("and comes again ahead of its window", row(owned(), comesAgain, times(9, work)), 0, 1, span(0, 8)...),
		alike("in debt, and comes again without", inDebt, 0, 4, join(span(0, 17), span(27, 27))...),
		alike("in debt, and another one has the slot then", row(owned(), times(9, work), []impl.Event{destroyHonest, takeOf(1, 0)}, times(9, work)), 0, 1, span(0, 8)...),
		alike("behind a skip, and comes again", row(owned(), times(12, work), comesAgain, times(7, work)), 0, 3, join(span(0, 8), span(18, 18))...),
		alike("twice", row(owned(), times(3, work), comesAgain, times(9, work), comesAgain, times(7, work)), 0, 3, 0, 1, 2, 9, 10, 11, 18),
		{"while it has what was given to it", row(lent(), []impl.Event{toHonest, work, destroyHonest, createHonest}, times(8, work)), 0, 0, []int64{1}, nil},
		alike("and is another one", row(owned(), times(3, work), []impl.Event{callOf(impl.CallDestroy, 1, 0, 0)}, times(16, work)), 0, 3, join(span(0, 8), span(18, 18))...),
		alike("but is refused it", row(owned(), times(9, work), []impl.Event{callOf(impl.CallDestroy, 0, 1, 0), callOf(impl.CallDestroy, 0, 0, 1)}, times(10, work)),
			0, 3, join(span(0, 8), span(18, 18))...),
		alike("but is not there", row([]impl.Event{destroyHonest}, owned(), times(19, work)), 0, 3, join(span(0, 8), span(18, 18))...),
		alike("by an event that is none", row(owned(), times(9, work), []impl.Event{{Kind: impl.EvTick, Act: work.Act, Call: destroyHonest.Call}}, times(10, work)),
			0, 3, join(span(0, 8), span(18, 18))...),
		alike("and another one that has what it gave", row(owned(), []impl.Event{toOther, callOf(impl.CallDestroy, 1, 0, 0)}, times(9, work)), 0, 2, 0, 9),
	})
	for phase := 1; phase < 9; phase++ {
		gone := row(owned(), times(phase, work), []impl.Event{destroyHonest}, times(10-phase, work))
		again := row(owned(), times(phase, work), comesAgain, times(10-phase, work))
		runs := span(0, int64(phase-1))
		checkAudits(t, 1, []auditCase{
			alike("while it runs", gone, 0, 1, runs...),
			alike("while it runs, and comes again", again, 0, 2, join(runs, []int64{9})...),
		})
	}
	if r := impl.RunKernel(1, inDebt); toldNotes(r.Notes, 0, impl.NoteForced) != 2 || toldNotes(r.Notes, 0, impl.NoteSkip) != 1 || r.Kernel.Accounts[0].Debt != 0 {
		t.Error("its notes would tell its debt", r)
	}
}

// An EvTick that has a fault is no tick: it takes no time, and stays as it is.
func TestAuditsOfTicksThatHaveAFault(t *testing.T) {
	faults := []impl.Event{
		{}, {Kind: impl.EvTick}, {Act: work.Act}, {Kind: 3, Act: work.Act}, {Kind: 1<<32 + 1, Act: work.Act},
		tickOf(0, 0), tickOf(4, 0), tickOf(lowest, 0), tickOf(impl.ActWork, 1), tickOf(impl.ActReturn, -1), tickOf(impl.ActReturn, highest),
		tickOf(impl.ActYield, -1), tickOf(impl.ActYield, 4), tickOf(impl.ActYield, highest),
		{Kind: impl.EvTick, Act: work.Act, Call: createHonest.Call}, {Kind: impl.EvTick, Act: toOther.Act, Call: impl.Call{To: 1}},
		{Kind: impl.EvCall, Act: work.Act}, {Kind: impl.EvCall}, callOf(impl.CallTake, 0, 12, 0), createHonest,
	}
	for _, e := range faults {
		mine := row(owned(), times(2, e), times(3, work), times(1, e), times(6, work), times(1, e), times(10, work))
		checkAudits(t, 1, []auditCase{
			alike("in its own time", mine, 0, 3, join(span(0, 8), span(18, 18))...),
			alike("in the time of another one", mine, 1, 0),
			alike("alone", row(owned(), times(20, e)), 0, 0),
		})
	}
}

var (
	faultyEnvs  = []int64{lowest, lowest + 1, -2, -1, 4, 5, 1 << 32, 1<<32 + 1, highest}
	faultyKinds = []int64{lowest, -1, 0, 3, 4, 1 << 32, 1<<32 + 1, 1<<32 + 2, highest}
)

func wantNoAudit(t *testing.T, name string, slots int64, events []impl.Event, env int64, code int64) {
	t.Helper()
	wantInt(t, name, impl.WindowsOf(slots, events, env), code, 0)
	wantInts(t, name, impl.RunsOf(slots, events, env), code, nil)
	if impl.IsBalanced(slots, events, env) {
		t.Error(name, "is balanced")
	}
	for _, kind := range append([]int64{1, 2}, faultyKinds...) {
		wantMuted(t, name, impl.MutedEvents(slots, events, env, kind), code, nil)
	}
}

// The slots come first, then how many events there are, then env, and at last the
// kind; what stands in the events is asked by none of these.
func TestWhichFaultOfAnAuditComesFirst(t *testing.T) {
	rows := [][]impl.Event{nil, {}, owned(), times(400, work), make([]impl.Event, 400)}
	tooMany := [][]impl.Event{times(401, work), make([]impl.Event, 401), make([]impl.Event, 5000)}
	for _, slots := range faultySlots {
		for _, events := range append(rows, tooMany...) {
			for _, env := range append([]int64{0, 3}, faultyEnvs...) {
				wantNoAudit(t, "slots", slots, events, env, impl.ErrMany)
			}
		}
	}
	for _, slots := range []int64{1, 2, 12} {
		for _, env := range append([]int64{0, 3}, faultyEnvs...) {
			for _, events := range tooMany {
				wantNoAudit(t, "too many events", slots, events, env, impl.ErrMany)
			}
		}
		for _, events := range rows {
			for _, env := range faultyEnvs {
				wantNoAudit(t, "env", slots, events, env, impl.ErrRange)
			}
			for env := range int64(4) {
				for _, kind := range faultyKinds {
					wantMuted(t, "kind", impl.MutedEvents(slots, events, env, kind), impl.ErrForm, nil)
				}
			}
		}
	}
}

func TestAuditsOfTheMostEvents(t *testing.T) {
	events := row(owned(), times(397, giveBack))
	var first []int64
	for tick := int64(0); tick < 397; tick += 9 {
		first = append(first, tick)
	}
	checkAudits(t, 1, []auditCase{
		alike("given back at once", events, 0, 45, first...),
		alike("of another one", events, 1, 0),
	})
}
