package tests

import (
	"slices"
	"testing"

	"loop.example/g00789/impl"
)

// windowOf is what a window of 0 comes to, if these events come at the phase,
// and work at all others; and at this one, too, if none of them is a tick.
func windowOf(phase int, between ...impl.Event) impl.RunResult {
	isTick := func(e impl.Event) bool { return e.Kind == impl.EvTick }
	events := []impl.Event{
		callOf(impl.CallCreate, 0, 0, 0), callOf(impl.CallCreate, 1, 0, 0), callOf(impl.CallTake, 0, 0, 0), callOf(impl.CallTake, 1, 1, 0),
	}
	for at := range impl.Window {
		if at == phase {
			events = append(events, between...)
		}
		if at != phase || !slices.ContainsFunc(between, isTick) {
			events = append(events, tickOf(impl.ActWork, 0))
		}
	}
	return impl.RunKernel(3, events)
}

// A yield counts up to the last tick of a slice in time, and not from the first
// late one on: whoever runs then is punished.
func TestAYieldAtEachPhase(t *testing.T) {
	for phase := range 9 {
		r := windowOf(phase, tickOf(impl.ActYield, 1))
		first, second := accountOf(6, 3, 0, 1), impl.Account{}
		notes := []impl.Note{noteOf(0, 0, impl.NoteRun), noteOf(8, 0, impl.NoteForced)}
		if phase <= 5 {
			first, second = accountOf(int64(phase), 0, 0, 0), accountOf(5-int64(phase), 3, 1, 1)
			notes = []impl.Note{noteOf(0, 0, impl.NoteRun), noteOf(int64(phase), 1, impl.NoteYield), noteOf(8, 1, impl.NoteForced)}
		}
		if r.Kernel.Accounts[0] != first || r.Kernel.Accounts[1] != second || !slices.Equal(r.Notes, notes) {
			t.Error("a yield at", phase, r)
		}
	}
}

// One that is destroyed while it runs takes its window with it: nobody runs up
// to the next one, also if it is created again, and nobody is punished.
func TestOneThatIsDestroyedWhileItRuns(t *testing.T) {
	create, take := callOf(impl.CallCreate, 0, 0, 0), callOf(impl.CallTake, 0, 0, 0)
	for phase := range 9 {
		for _, between := range [][]impl.Event{{callOf(impl.CallDestroy, 0, 0, 0)}, {callOf(impl.CallDestroy, 0, 0, 0), create}, {callOf(impl.CallDestroy, 0, 0, 0), create, take}} {
			r := windowOf(phase, between...)
			notes := []impl.Note{noteOf(0, 0, impl.NoteRun)}
			account := impl.Account{}
			if phase == 0 {
				notes[0] = noteOf(0, nobody, impl.NoteIdle)
			}
			if phase == 0 && len(between) == 3 {
				notes = []impl.Note{noteOf(0, 0, impl.NoteRun), noteOf(8, 0, impl.NoteForced)}
				account = accountOf(6, 3, 0, 1)
			}
			if !slices.Equal(r.Notes, notes) || r.Kernel.Accounts[0] != account || r.Kernel.Run != nobody || r.Kernel.Tick != 9 {
				t.Error("destroyed at", phase, between, r)
			}
		}
	}
	// One to which was yielded is destroyed, too, and the owner does not get its window back.
	r := windowOf(3, tickOf(impl.ActYield, 1), callOf(impl.CallDestroy, 1, 0, 0))
	if r.Kernel.Accounts[0] != accountOf(3, 0, 0, 0) || r.Kernel.Alive[1] || len(r.Notes) != 2 {
		t.Error("one that was given", r)
	}
}

// A slot that is moved, freed or dropped goes while its window goes on: who runs
// runs up to its end, and the new owner has the window of the next round.
func TestASlotThatGoesWithinItsWindow(t *testing.T) {
	for phase := 1; phase < 9; phase++ {
		for owner, call := range map[int64]impl.Event{
			1:         callOf(impl.CallMove, 0, 0, 1),
			impl.Free: callOf(impl.CallFree, 0, 0, 0),
		} {
			r := windowOf(phase, call)
			want := []impl.Note{noteOf(0, 0, impl.NoteRun), noteOf(8, 0, impl.NoteForced)}
			if !slices.Equal(r.Notes, want) || r.Kernel.Accounts[0] != accountOf(6, 3, 0, 1) || r.Kernel.Owners[0] != owner {
				t.Error(call, "at", phase, r)
			}
			k := r.Kernel
			k.Tick = 27 // the next round of three slots
			next := impl.DoTick(k, impl.Act{Kind: impl.ActWork})
			note := noteOf(27, nobody, impl.NoteIdle)
			if owner == 1 {
				note = noteOf(27, 1, impl.NoteRun)
			}
			if !slices.Equal(next.Notes, []impl.Note{note}) {
				t.Error("the next round", next)
			}
		}
	}
	// Here the owner has yielded, and is destroyed: its slot drops, and who runs runs on.
	r := windowOf(2, tickOf(impl.ActYield, 1), callOf(impl.CallDestroy, 0, 0, 0))
	want := []impl.Note{noteOf(0, 0, impl.NoteRun), noteOf(2, 1, impl.NoteYield), noteOf(8, 1, impl.NoteForced)}
	if !slices.Equal(r.Notes, want) || r.Kernel.Accounts[1] != accountOf(3, 3, 1, 1) || r.Kernel.Owners[0] != impl.Free {
		t.Error("the owner is dropped within the window of another one", r)
	}
}

// A debt goes from 0 to its bound by windows that are not given back, and a
// window is skipped for each; who gives back in time owes nothing.
func TestDebtsOfWindows(t *testing.T) {
	work := slices.Repeat([]impl.Event{tickOf(impl.ActWork, 0)}, 396)
	start := []impl.Event{callOf(impl.CallCreate, 0, 0, 0), callOf(impl.CallTake, 0, 0, 0)}
	r := impl.RunKernel(1, append(slices.Clone(start), work...))
	if len(r.Notes) != 66 || r.Kernel.Accounts[0] != accountOf(22*6, 22*3, 0, 0) || r.Kernel.Run != nobody {
		t.Error("forced and skipped in turn", r)
	}
	for i, n := range r.Notes {
		if n.Kind != []int64{impl.NoteRun, impl.NoteForced, impl.NoteSkip}[i%3] {
			t.Error("the note", i, r.Notes)
		}
	}
	// 0 owns nothing, and holds on to the windows that 1 yields to it: what it owes is never skipped.
	given := []impl.Event{callOf(impl.CallCreate, 0, 0, 0), callOf(impl.CallCreate, 1, 0, 0), callOf(impl.CallTake, 1, 0, 0)}
	for range 5 {
		given = append(append(given, tickOf(impl.ActYield, 0)), work[:8]...)
	}
	r = impl.RunKernel(1, given)
	var ends []int64
	for _, n := range r.Notes {
		if n.Tick%9 == 8 {
			ends = append(ends, n.Kind)
		}
	}
	if !slices.Equal(ends, []int64{impl.NoteForced, impl.NoteForced, impl.NoteForced, impl.NoteDropped, impl.NoteDropped}) ||
		r.Kernel.Accounts[0] != accountOf(25, 15, 5, 3) || r.Kernel.Accounts[1] != (impl.Account{}) {
		t.Error("a debt at its bound", r)
	}
	back := slices.Clone(start)
	for range 10 {
		back = append(append(append(back, work[:6]...), tickOf(impl.ActReturn, 0)), work[:2]...)
	}
	if r = impl.RunKernel(1, back); r.Kernel.Accounts[0] != accountOf(60, 0, 0, 0) || len(r.Notes) != 20 {
		t.Error("given back in time", r)
	}
}
