package tests

import (
	"slices"
	"testing"

	"loop.example/g00789/impl"
)

var (
	createHonest  = callOf(impl.CallCreate, 0, 0, 0)
	destroyHonest = callOf(impl.CallDestroy, 0, 0, 0)
	createOther   = callOf(impl.CallCreate, 1, 0, 0)
	work          = tickOf(impl.ActWork, 0)
	giveBack      = tickOf(impl.ActReturn, 0)
	toHonest      = tickOf(impl.ActYield, 0)
	toOther       = tickOf(impl.ActYield, 1)
)

func takeOf(env int64, slot int64) impl.Event {
	return callOf(impl.CallTake, env, slot, 0)
}

func row(parts ...[]impl.Event) []impl.Event {
	return slices.Concat(parts...)
}

func times(n int, events ...impl.Event) []impl.Event {
	return slices.Repeat(events, n)
}

// owned is what gives Honest the only slot, with another one beside it; lent is
// what gives that one the slot.
func owned() []impl.Event {
	return []impl.Event{createHonest, createOther, takeOf(0, 0)}
}

func lent() []impl.Event {
	return []impl.Event{createHonest, createOther, takeOf(1, 0)}
}

// honestRun is told by the notes of its windows, by the account of Honest and by
// how many steps its library went; no event of it has a code but these.
type honestRun struct {
	name    string
	plans   []impl.Plan
	events  []impl.Event
	notes   []impl.Note
	account impl.Account
	steps   int64
	codes   map[int]int64
}

func checkHonestRuns(t *testing.T, runs []honestRun) {
	t.Helper()
	for _, c := range runs {
		r := impl.RunStack(1, c.plans, c.events)
		if r.Code != impl.OK || !slices.Equal(r.Notes, c.notes) || len(r.Kernel.Accounts) != 4 || r.Kernel.Accounts[0] != c.account {
			t.Errorf("%s: the kernel is %v with %v, want %v with %v", c.name, r.Kernel, r.Notes, c.account, c.notes)
			continue
		}
		lib := impl.RunLib(c.plans, c.steps)
		if !sameLib(r.Lib, lib.Lib) || !slices.Equal(r.LibNotes, lib.Notes) {
			t.Errorf("%s: the library is %v with %v, want %v with %v", c.name, r.Lib, r.LibNotes, lib.Lib, lib.Notes)
		}
		codes := make([]int64, len(c.events))
		for place, code := range c.codes {
			codes[place] = code
		}
		if !slices.Equal(r.Codes, codes) {
			t.Errorf("%s: codes %v, want %v", c.name, r.Codes, codes)
		}
		wantInt(t, c.name, impl.PicksIn(1, c.plans, c.events), impl.OK, c.steps)
		if !impl.IsHonest(1, c.plans, c.events) {
			t.Error(c.name, "is not honest")
		}
	}
}

func began(tick int64, env int64) impl.Note {
	return noteOf(tick, env, impl.NoteRun)
}

func returned(tick int64, env int64) impl.Note {
	return noteOf(tick, env, impl.NoteReturn)
}

func yielded(tick int64, to int64) impl.Note {
	return noteOf(tick, to, impl.NoteYield)
}

func idled(tick int64) impl.Note {
	return noteOf(tick, nobody, impl.NoteIdle)
}

func forced(tick int64, env int64) impl.Note {
	return noteOf(tick, env, impl.NoteForced)
}

func skipped(tick int64, env int64) impl.Note {
	return noteOf(tick, env, impl.NoteSkip)
}

func used(ticks int64) impl.Account {
	return accountOf(ticks, 0, 0, 0)
}

func given(ticks int64, yields int64) impl.Account {
	return accountOf(ticks, 0, yields, 0)
}

func TestAWindowOfHonest(t *testing.T) {
	window := []impl.Note{began(0, 0), returned(6, 0)}
	one, some := []impl.Plan{workOf(8)}, []impl.Plan{workOf(2), planOf(2, opWork())}
	runs := []honestRun{
		{"the first tick of it", busy(), row(owned(), times(1, work)), window[:1], used(1), 1, nil},
		{"all its ticks in time", busy(), row(owned(), times(6, work)), window[:1], used(6), 6, nil},
		{"and it is given back", busy(), row(owned(), times(7, work)), window, used(6), 6, nil},
		{"up to its end", busy(), row(owned(), times(9, work)), window, used(6), 6, nil},
		{"and the next one begins", busy(), row(owned(), times(10, work)), append(slices.Clone(window), began(9, 0)), used(7), 7, nil},
		{"two of them", busy(), row(owned(), times(18, work)), append(slices.Clone(window), began(9, 0), returned(15, 0)), used(12), 12, nil},
		{"of one plan", one, row(owned(), times(9, work)), window, used(6), 6, nil},
		{"of one plan, up to its end", one, row(owned(), times(18, work)),
			[]impl.Note{began(0, 0), returned(6, 0), began(9, 0), returned(12, 0)}, used(9), 9, nil},
		{"of two plans, all of which is done in it", some, row(owned(), times(9, work)), []impl.Note{began(0, 0), returned(5, 0)}, used(5), 5, nil},
		{"of plans with no ops", []impl.Plan{planOf(1), planOf(10)}, row(owned(), times(9, work)),
			[]impl.Note{began(0, 0), returned(2, 0)}, used(2), 2, nil},
		{"of nobody", busy(), row([]impl.Event{createHonest, createOther}, times(10, work)), []impl.Note{idled(0), idled(9)}, used(0), 0, nil},
		{"of another one", busy(), row(lent(), times(9, work)), []impl.Note{began(0, 1), forced(8, 1)}, used(0), 0, nil},
		{"of another one that owes", busy(), row(lent(), times(19, work)),
			[]impl.Note{began(0, 1), forced(8, 1), skipped(9, 1), began(18, 1)}, used(0), 0, nil},
	}
	// Whatever stands there, when Honest acts it does what it does.
	for _, e := range []impl.Event{work, giveBack, toHonest, toOther, tickOf(impl.ActYield, 2), tickOf(impl.ActYield, 3)} {
		runs = append(runs, honestRun{"another act stands there", busy(), row(owned(), times(9, e)), window, used(6), 6, nil})
		for at := range 9 {
			turned := times(9, work)
			turned[at] = e
			runs = append(runs, honestRun{"another act stands there once", busy(), row(owned(), turned), window, used(6), 6, nil})
		}
	}
	checkHonestRuns(t, runs)
}

// The notes of the library are told by hand here, beside those of the windows.
func TestWhatTheThreadsOfHonestDo(t *testing.T) {
	plans := []impl.Plan{planOf(1, opLock(0), opWork(), opUnlock(0)), planOf(1, opLock(0), opUnlock(0))}
	libNotes := []impl.LibNote{did(0, impl.OpLock), did(1, impl.OpLock), did(0, impl.OpWork), did(0, impl.OpUnlock), did(0, impl.OpEnd), did(1, impl.OpUnlock)}
	want := impl.StackResult{
		Kernel:   withAccount(kernelOf(9, nobody, []int64{0, impl.Free}, 0), 0, used(6)),
		Codes:    repeat(impl.OK, 11),
		Notes:    []impl.Note{began(0, 0), returned(6, 0)},
		Lib:      libOf(schedOf(10080, 1, 1, 10080), bothLocks(nobodys(), nobodys()), bothConds(nil, nil), doneAt(1, 3, 2520), readyAt(1, 2)),
		LibNotes: libNotes,
	}
	events := row([]impl.Event{createHonest, takeOf(0, 0)}, times(9, giveBack))
	wantStack(t, "one window", impl.RunStack(2, plans, events), want)
	// The second slot is free, and the library stands still up to the third window.
	events = row(events, times(11, work))
	want.Kernel = withAccount(kernelOf(20, nobody, []int64{0, impl.Free}, 0), 0, used(7))
	want.Codes = repeat(impl.OK, 22)
	want.Notes = append(want.Notes, idled(9), began(18, 0), returned(19, 0))
	want.Lib = quietLib(schedOf(12600), doneAt(1, 3, 2520), doneAt(1, 2, 0))
	want.LibNotes = append(slices.Clone(libNotes), did(1, impl.OpEnd))
	wantStack(t, "three windows", impl.RunStack(2, plans, events), want)
	wantInt(t, "three windows", impl.PicksIn(2, plans, events), impl.OK, 7)
}

// Where nobody is ready Honest gives back at once, and its library goes no step.
func TestALibraryWhereNobodyIsReady(t *testing.T) {
	at := func(steps int64) []impl.Note {
		return []impl.Note{began(0, 0), returned(steps, 0), began(9, 0), returned(9, 0), began(18, 0), returned(18, 0)}
	}
	events := row(owned(), times(27, work))
	checkHonestRuns(t, []honestRun{
		{"all are done", []impl.Plan{planOf(1), planOf(1)}, events, at(2), used(2), 2, nil},
		{"all are done at the last tick in time", []impl.Plan{workOf(5)}, events, at(6), used(6), 6, nil},
		{"each waits for the other one", []impl.Plan{planOf(1, opLock(0), opLock(1)), planOf(1, opLock(1), opLock(0))}, events, at(4), used(4), 4, nil},
		{"one waits for a signal", []impl.Plan{planOf(1, opLock(0), opWait(0, 0))}, events, at(2), used(2), 2, nil},
		{"all wait for a signal", slices.Repeat([]impl.Plan{planOf(1, opLock(0), opWait(0, 1))}, 2), events, at(4), used(4), 4, nil},
		{"one is done, and one waits for a lock of one that waits for a signal",
			[]impl.Plan{planOf(1, opLock(0), opLock(1), opWait(1, 1)), planOf(1, opLock(0)), planOf(1)}, events, at(5), used(5), 5, nil},
		{"and others give to it", []impl.Plan{planOf(1)},
			row(owned(), times(9, work), []impl.Event{callOf(impl.CallMove, 0, 0, 1)}, times(3, work), times(2, toHonest)),
			[]impl.Note{began(0, 0), returned(1, 0), began(9, 1), yielded(12, 0), returned(13, 0)}, given(1, 1), 1, nil},
	})
}

// What others give to Honest is its own up to the last tick in time, and is given
// back at the next one.
func TestWindowsThatAreGivenToHonest(t *testing.T) {
	for phase := range int64(6) {
		events := row(lent(), times(int(phase), work), times(1, toHonest), times(8-int(phase), toOther))
		checkHonestRuns(t, []honestRun{{"given in time", busy(), events,
			[]impl.Note{began(0, 1), yielded(phase, 0), returned(6, 0)}, given(5-phase, 1), 5 - phase, nil}})
	}
	for phase := 6; phase < 9; phase++ {
		events := row(lent(), times(phase, work), times(9-phase, toHonest))
		checkHonestRuns(t, []honestRun{{"given too late", busy(), events, []impl.Note{began(0, 1), forced(8, 1)}, used(0), 0, nil}})
	}
	third := callOf(impl.CallCreate, 2, 0, 0)
	checkHonestRuns(t, []honestRun{
		{"given by one that was given it", busy(), row(lent(), []impl.Event{third, tickOf(impl.ActYield, 2), work, toHonest}, times(6, work)),
			[]impl.Note{began(0, 1), yielded(0, 2), yielded(2, 0), returned(6, 0)}, given(3, 1), 3, nil},
		{"given by one that would have it back", busy(), row(lent(), []impl.Event{toHonest}, times(8, toOther)),
			[]impl.Note{began(0, 1), yielded(0, 0), returned(6, 0)}, given(5, 1), 5, nil},
		{"given at the last tick in time", busy(), row(lent(), times(5, work), []impl.Event{toHonest, work}),
			[]impl.Note{began(0, 1), yielded(5, 0), returned(6, 0)}, given(0, 1), 0, nil},
		{"given in each window", busy(), row(lent(), times(3, toHonest, work, work, work, work, work, work, work, work)),
			[]impl.Note{began(0, 1), yielded(0, 0), returned(6, 0), began(9, 1), yielded(9, 0), returned(15, 0), began(18, 1), yielded(18, 0), returned(24, 0)},
			given(15, 3), 15, nil},
		{"given to one that is not there", busy(), row([]impl.Event{createOther, takeOf(1, 0)}, times(9, toHonest)),
			[]impl.Note{began(0, 1), forced(8, 1)}, used(0), 0, nil},
		{"given by a move of the slot ahead of the window", busy(), row(lent(), []impl.Event{callOf(impl.CallMove, 1, 0, 0)}, times(9, work)),
			[]impl.Note{began(0, 0), returned(6, 0)}, used(6), 6, nil},
		{"given by a move of the slot within the window, which goes on", busy(),
			row(lent(), times(1, work), []impl.Event{callOf(impl.CallMove, 1, 0, 0)}, times(9, work)),
			[]impl.Note{began(0, 1), forced(8, 1), began(9, 0)}, used(1), 1, nil},
	})
}

// Honest yields to nobody, and has up to its time what is taken from it within its
// window.
func TestWindowsThatHonestGives(t *testing.T) {
	move := callOf(impl.CallMove, 0, 0, 1)
	runs := []honestRun{
		{"by a yield, which it does not do", busy(), row(owned(), times(9, toOther)), []impl.Note{began(0, 0), returned(6, 0)}, used(6), 6, nil},
		{"by a move ahead of its window", busy(), row(owned(), []impl.Event{move}, times(9, work)), []impl.Note{began(0, 1), forced(8, 1)}, used(0), 0, nil},
		{"by a move, and is given it again", busy(), row(owned(), []impl.Event{move, work, toHonest}, times(5, work)),
			[]impl.Note{began(0, 1), yielded(1, 0), returned(6, 0)}, given(4, 1), 4, nil},
	}
	for phase := 1; phase < 9; phase++ {
		for _, call := range []impl.Event{move, callOf(impl.CallFree, 0, 0, 0)} {
			next := began(9, 1)
			if call != move {
				next = idled(9)
			}
			events := row(owned(), times(phase, work), []impl.Event{call}, times(10-phase, toOther))
			runs = append(runs, honestRun{"within its window", busy(), events, []impl.Note{began(0, 0), returned(6, 0), next}, used(6), 6, nil})
		}
	}
	checkHonestRuns(t, runs)
}

// Its threads go on where they were when Honest is destroyed and comes again; its
// account begins anew.
func TestHonestIsDestroyedAndComesAgain(t *testing.T) {
	take := takeOf(0, 0)
	for phase := 1; phase < 9; phase++ {
		done := int64(min(phase, 6))
		notes := []impl.Note{began(0, 0)}
		if phase > 6 {
			notes = append(notes, returned(6, 0))
		}
		gone := row(owned(), times(phase, work), []impl.Event{destroyHonest}, times(9-phase, work))
		checkHonestRuns(t, []honestRun{
			{"and is gone", busy(), row(gone, times(1, work)), append(slices.Clone(notes), idled(9)), used(0), done, nil},
			{"and comes again behind its window", busy(), row(gone, []impl.Event{createHonest, take}, times(7, work)),
				append(slices.Clone(notes), began(9, 0), returned(15, 0)), used(6), done + 6, nil},
			{"and comes again within its window, which it has lost", busy(),
				row(owned(), times(phase, work), []impl.Event{destroyHonest, createHonest, take}, times(12-phase, work)),
				append(slices.Clone(notes), began(9, 0)), used(3), done + 3, nil},
		})
	}
	checkHonestRuns(t, []honestRun{
		{"ahead of its window", busy(), row(owned(), []impl.Event{destroyHonest}, times(9, work)), []impl.Note{idled(0)}, used(0), 0, nil},
		{"and comes again ahead of its window", busy(), row(owned(), []impl.Event{destroyHonest, createHonest, take}, times(9, work)),
			[]impl.Note{began(0, 0), returned(6, 0)}, used(6), 6, nil},
		{"twice, and comes again twice", busy(),
			row(owned(), times(9, work), []impl.Event{destroyHonest, createHonest, take}, times(11, work), []impl.Event{destroyHonest, createHonest, take}, times(8, work)),
			[]impl.Note{began(0, 0), returned(6, 0), began(9, 0), returned(15, 0), began(18, 0), began(27, 0)}, used(1), 15, nil},
		{"while it has what was given to it", busy(), row(lent(), times(1, toHonest), times(2, work), []impl.Event{destroyHonest, createHonest}, times(6, work)),
			[]impl.Note{began(0, 1), yielded(0, 0)}, used(0), 2, nil},
		{"and another one is, which counts for nothing", busy(), row(owned(), times(3, work), []impl.Event{callOf(impl.CallDestroy, 1, 0, 0)}, times(6, work)),
			[]impl.Note{began(0, 0), returned(6, 0)}, used(6), 6, nil},
		{"but is refused it", busy(), row(owned(), times(3, work), []impl.Event{callOf(impl.CallDestroy, 0, 1, 0), callOf(impl.CallDestroy, 0, 0, 1)}, times(6, work)),
			[]impl.Note{began(0, 0), returned(6, 0)}, used(6), 6, map[int]int64{6: impl.ErrForm, 7: impl.ErrForm}},
		{"by an event that is none", busy(), row(owned(), times(3, work), []impl.Event{{Kind: impl.EvTick, Act: work.Act, Call: destroyHonest.Call}}, times(6, work)),
			[]impl.Note{began(0, 0), returned(6, 0)}, used(6), 6, map[int]int64{6: impl.ErrForm}},
		{"and once more, which is refused", busy(),
			row(owned(), times(3, work), []impl.Event{destroyHonest, destroyHonest}, times(6, work), []impl.Event{destroyHonest, createHonest, take}, times(4, work)),
			[]impl.Note{began(0, 0), began(9, 0)}, used(4), 7, map[int]int64{7: impl.ErrNone, 14: impl.ErrNone}},
	})
}

// A tick that has a fault is not done, also where Honest would have acted by
// another act than the one that stands there.
func TestTicksOfHonestThatHaveAFault(t *testing.T) {
	faults := []struct {
		e    impl.Event
		code int64
	}{
		{tickOf(0, 0), impl.ErrForm}, {tickOf(4, 0), impl.ErrForm}, {tickOf(lowest, 0), impl.ErrForm},
		{tickOf(impl.ActWork, 1), impl.ErrForm}, {tickOf(impl.ActReturn, -1), impl.ErrForm}, {tickOf(0, 4), impl.ErrForm},
		{tickOf(impl.ActYield, -1), impl.ErrRange}, {tickOf(impl.ActYield, 4), impl.ErrRange}, {tickOf(impl.ActYield, highest), impl.ErrRange},
		{impl.Event{Kind: impl.EvTick, Act: work.Act, Call: createHonest.Call}, impl.ErrForm},
		{impl.Event{Kind: impl.EvTick, Act: impl.Act{Kind: impl.ActYield, To: 4}, Call: impl.Call{Env: 1}}, impl.ErrForm},
		{impl.Event{Kind: impl.EvTick}, impl.ErrForm}, {impl.Event{}, impl.ErrForm}, {impl.Event{Act: work.Act}, impl.ErrForm},
		{impl.Event{Kind: 3, Act: work.Act}, impl.ErrForm}, {impl.Event{Kind: 1<<32 + 1, Act: work.Act}, impl.ErrForm},
		{impl.Event{Kind: impl.EvCall, Act: work.Act}, impl.ErrForm}, {impl.Event{Kind: impl.EvCall}, impl.ErrForm},
		{callOf(impl.CallTake, 0, 12, 0), impl.ErrRange}, {callOf(impl.CallTake, 0, 0, 0), impl.ErrTaken}, {callOf(impl.CallTake, 0, 1, 0), impl.ErrNone},
		{createHonest, impl.ErrTaken}, {callOf(impl.CallFree, 1, 0, 0), impl.ErrOwner}, {callOf(impl.CallMove, 0, 0, 2), impl.ErrNone},
	}
	for _, f := range faults {
		for phase := range 9 {
			events := row(owned(), times(phase, work), times(2, f.e), times(9-phase, work))
			checkHonestRuns(t, []honestRun{{"a fault", busy(), events, []impl.Note{began(0, 0), returned(6, 0)}, used(6), 6,
				map[int]int64{3 + phase: f.code, 4 + phase: f.code}}})
		}
	}
}
