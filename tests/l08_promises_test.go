package tests

import (
	"slices"
	"testing"

	"loop.example/g00789/impl"
)

// checkActs asks twice, of memory that would show a change, and holds the answers
// against what the document tells.
func checkActs(t *testing.T, k impl.Kernel, l impl.Lib) {
	t.Helper()
	whole, part := spareKernel(k)
	before := cloneKernel(whole)
	ready, some := spareOf(l.Sched.List, markedReady)
	l.Sched.List = some
	readyBefore, libBefore := slices.Clone(ready), ownLib(l)
	for range 2 {
		if got, want := impl.WhoActs(part), toldWhoActs(k); got != want {
			t.Fatal("who acts in", k, got, "want", want)
		}
		if got, want := impl.HonestAct(part, l), toldHonestAct(k, l); got != want {
			t.Fatal("the act in", k, l, got, "want", want)
		}
	}
	if !sameFields(whole, before) || !slices.Equal(ready, readyBefore) || !sameLib(l, libBefore) {
		t.Fatal("an argument was turned", whole, before, l, libBefore)
	}
}

// Promise 1: every phase of two rounds, whoever owns the slots, runs and owes.
func TestEveryWhoActs(t *testing.T) {
	eachList(2, []int64{impl.Free, 0, 1, 3}, func(owners []int64) {
		for tick := int64(-1); tick <= 37; tick++ {
			for run := int64(-2); run <= 4; run++ {
				for debt := int64(-1); debt <= 4; debt++ {
					k := kernelOf(tick, run, owners, 0, 1, 2)
					k.Accounts[0].Debt, k.Accounts[1].Debt = debt, (debt+1)%4
					for _, alive := range []bool{false, true} {
						k.Alive[3] = alive
						checkActs(t, k, impl.Lib{})
						checkActs(t, k, fullLib())
					}
				}
			}
		}
	})
}

// Promise 1: kernels with and without faults, beside any libraries.
func TestEveryActOnManyKernels(t *testing.T) {
	var chance steps
	for range 5000 {
		k := chanceKernel(&chance)
		for _, c := range anyLibs {
			checkActs(t, k, c.l)
		}
		checkActs(t, k, impl.RunLib(chancePlans(&chance), chance.below(40)).Lib)
	}
}

// checkStackAnswer takes an answer to pieces: to write into one of its lists leaves
// all others as they are.
func checkStackAnswer(t *testing.T, name string, r impl.StackResult, want impl.StackResult) {
	t.Helper()
	if !sameStacks(r, want) {
		t.Fatalf("%s:\n got %v\nwant %v", name, r, want)
	}
	scribbleOf(r.Kernel.Accounts, markedAccount)
	scribble(r.Kernel.Owners)
	if !slices.Equal(r.Kernel.Alive, want.Kernel.Alive) || !slices.Equal(r.Codes, want.Codes) || !slices.Equal(r.Notes, want.Notes) {
		t.Fatalf("%s: lists are shared: %v, want %v", name, r, want)
	}
	scribbleKernel(r.Kernel)
	scribble(r.Codes)
	scribbleOf(r.Notes, markedNote)
	checkLibAnswer(t, name, impl.LibResult{Lib: r.Lib, Notes: r.LibNotes}, impl.LibResult{Lib: want.Lib, Notes: want.LibNotes})
}

// checkStack asks twice, of memory that would show a change, and holds the answers
// against what the document tells.
func checkStack(t *testing.T, slots int64, plans []impl.Plan, events []impl.Event) {
	t.Helper()
	want, _, destroyed := toldStack(slots, plans, events)
	ops, wholePlans, somePlans := sparePlans(plans)
	whole, part := spareOf(events, tickOf(mark, mark))
	opsBefore, plansBefore, before := slices.Clone(ops), slices.Clone(wholePlans), slices.Clone(whole)
	first, second := impl.RunStack(slots, somePlans, part), impl.RunStack(slots, somePlans, part)
	if got := impl.IsHonest(slots, somePlans, part); got != toldIsHonest(want, destroyed) || got != (want.Code == impl.OK) {
		t.Fatal("honest", got, slots, plans, events, want)
	}
	if got := impl.PicksIn(slots, somePlans, part); got != toldPicksIn(want) {
		t.Fatal("picks", got, slots, plans, events, want)
	}
	checkStackAnswer(t, "stack", first, want)
	if !slices.Equal(ops, opsBefore) || !samePlans(wholePlans, plansBefore) || !slices.Equal(whole, before) {
		t.Fatal("an argument was turned", plans, somePlans, events, part)
	}
	scribbleOf(ops, markedOp)
	scribbleOf(wholePlans, markedPlan)
	scribbleOf(whole, tickOf(mark, mark))
	checkStackAnswer(t, "stack again", second, want)
}

// stackEvent is mostly a tick, and often one that gives to Honest.
func stackEvent(chance *steps, slots int64) []impl.Event {
	switch chance.below(24) {
	case 0:
		return []impl.Event{toHonest}
	case 1:
		return []impl.Event{createHonest, takeOf(0, chance.below(slots))}
	case 2:
		return []impl.Event{takeOf(0, chance.below(slots))}
	case 3:
		return []impl.Event{callOf(impl.CallMove, 1+chance.below(3), chance.below(slots), 0)}
	}
	if chance.below(30) == 0 {
		return []impl.Event{destroyHonest, createHonest, takeOf(0, chance.below(slots))}
	}
	return []impl.Event{chanceEvent(chance, slots)}
}

func stackEvents(chance *steps, slots int64, count int64) []impl.Event {
	events := chanceEvents(chance, slots, min(count, chance.below(20)))
	for int64(len(events)) < count {
		events = append(events, stackEvent(chance, slots)...)
	}
	return events[:count]
}

// eachStack calls see with many rows of events beside plans of all kinds.
func eachStack(rounds int64, counts []int64, see func(slots int64, plans []impl.Plan, events []impl.Event)) {
	var chance steps
	for range rounds {
		slots := 1 + chance.below(3)
		if chance.below(4) == 0 {
			slots = 1 + chance.below(12)
		}
		plans := chancePlans(&chance)
		if chance.below(2) == 0 {
			plans = busy()
		}
		see(slots, plans, stackEvents(&chance, slots, counts[chance.below(int64(len(counts)))]))
	}
}

// Promise 1: long and short rows of events beside plans without a fault.
func TestEveryStack(t *testing.T) {
	eachStack(3000, []int64{0, 1, 9, 40, 100, 200, 400}, func(slots int64, plans []impl.Plan, events []impl.Event) {
		checkStack(t, slots, plans, events)
	})
}

// The rows come to all that a stack may come to.
func TestTheStacksAreOfManyKinds(t *testing.T) {
	met := map[string]int{}
	eachStack(1000, []int64{40, 100, 200}, func(slots int64, plans []impl.Plan, events []impl.Event) {
		r, done, destroyed := toldStack(slots, plans, events)
		for at, e := range done {
			if r.Codes[at] == impl.OK && e.Act != events[at].Act {
				met["turned"]++
			}
		}
		for _, n := range r.Notes {
			switch {
			case n.Kind == impl.NoteYield && n.Env == 0:
				met["given"]++
			case n.Kind == impl.NoteReturn && n.Env == 0 && n.Tick%9 == 6:
				met["in time"]++
			case n.Kind == impl.NoteReturn && n.Env == 0 && n.Tick%9 == 0:
				met["at once"]++
			case n.Kind == impl.NoteForced && n.Env != 0:
				met["forced"]++
			}
		}
		if destroyed > 0 && len(r.LibNotes) > destroyed {
			met["came again"]++
		}
	})
	for _, kind := range []string{"turned", "given", "in time", "at once", "forced", "came again"} {
		if met[kind] < 100 {
			t.Error("hardly ever", kind, met)
		}
	}
}

// Promise 1: every five events from the middle of a window on, which is that of
// Honest or of another one, and one more tick behind.
func TestEveryShortStack(t *testing.T) {
	of := []impl.Event{work, giveBack, toHonest, toOther, destroyHonest, createHonest, takeOf(0, 0)}
	plans := []impl.Plan{planOf(2, opLock(0), opWait(0, 0)), planOf(1, opWork(), opWork(), opWork(), opLock(0), opSignal(0, 0))}
	for _, start := range [][]impl.Event{row(owned(), times(3, work)), row(lent(), times(3, toOther))} {
		eachList(5, []int64{0, 1, 2, 3, 4, 5, 6}, func(places []int64) {
			events := slices.Clone(start)
			for _, place := range places {
				events = append(events, of[place])
			}
			checkStack(t, 1, plans, append(events, work))
		})
	}
}

// Promise 1: every act at every phase of a window of one that gives to Honest.
func TestEveryWindowThatIsGiven(t *testing.T) {
	of := []impl.Event{work, giveBack, toHonest}
	eachList(7, []int64{0, 1, 2}, func(places []int64) {
		events := lent()
		for _, place := range places {
			events = append(events, of[place])
		}
		checkStack(t, 1, busy(), row(events, times(3, toHonest)))
	})
}

// Promise 1: every event with a fault, while Honest acts and while it does not.
func TestEveryFaultyEventOfAStack(t *testing.T) {
	var faulty []impl.Event
	calls := append(eachCall(-1, 0, 11, 12), impl.Call{})
	for kind := int64(-1); kind <= 3; kind++ {
		for _, a := range append(eachAct(), impl.Act{}) {
			for at := 0; at < len(calls); at += 1 + len(calls)/40 {
				e := impl.Event{Kind: kind, Act: a, Call: calls[at]}
				if toldEventFault(e) != impl.OK {
					faulty = append(faulty, e)
				}
			}
		}
	}
	for _, e := range faulty {
		checkStack(t, 1, busy(), row(owned(), []impl.Event{e}, times(3, work), []impl.Event{e}, times(4, work), []impl.Event{e}))
	}
	for events := range slices.Chunk(faulty, 390) {
		checkStack(t, 1, busy(), row(owned(), events, times(3, work)))
		checkStack(t, 1, busy(), row(lent(), times(3, work), events, times(3, toHonest)))
	}
}

// Promise 1: arguments with several faults at once.
func TestEveryStackOfSpoiledArguments(t *testing.T) {
	var chance steps
	counts := []int64{0, 1, 30, 400, 401, 402, 1000}
	for range 4000 {
		slots := 1 + chance.below(12)
		events := stackEvents(&chance, slots, counts[chance.below(int64(len(counts)))])
		if chance.below(3) == 0 {
			slots = faultySlots[chance.below(int64(len(faultySlots)))]
		}
		plans := chancePlans(&chance)
		for range chance.below(3) {
			plans = spoiledPlans(&chance, plans)
		}
		checkStack(t, slots, plans, events)
	}
}

// Promise 9: who acts is told ahead of the tick: it is who uses it, who gives it
// back, and who yields it.
func TestWhoActsIsWhoActsInTheTick(t *testing.T) {
	var chance steps
	acted := map[int64]int{}
	for range 5000 {
		k := chanceKernel(&chance)
		for env := range k.Accounts {
			// A counter that is full would not show who used the tick.
			k.Accounts[env].Used %= most
			k.Accounts[env].Excess %= most
		}
		if impl.KernelFault(k) != impl.OK || k.Tick == impl.MaxTick {
			continue
		}
		who := impl.WhoActs(k).Value
		acted[who]++
		if got := whoUsed(t, k, impl.DoTick(k, impl.Act{Kind: impl.ActWork}).Kernel); got != who {
			t.Fatal("a tick of", k, "was used by", got, "but", who, "was told")
		}
		back := impl.DoTick(k, impl.Act{Kind: impl.ActReturn})
		at := slices.IndexFunc(back.Notes, func(n impl.Note) bool { return n.Kind == impl.NoteReturn })
		if who == nobody && at >= 0 || who != nobody && (at < 0 || back.Notes[at].Env != who) {
			t.Fatal("a tick of", k, "was given back:", back.Notes, "but", who, "was told")
		}
		for to := range int64(4) {
			yield := impl.DoTick(k, impl.Act{Kind: impl.ActYield, To: to})
			passes := who != nobody && to != who && k.Alive[to] && k.Tick%9 < 6
			if slices.Contains(yield.Notes, yielded(k.Tick, to)) != passes {
				t.Fatal("a tick of", k, "yields to", to, yield.Notes, "but", who, "was told")
			}
		}
	}
	for who := int64(nobody); who < 4; who++ {
		if acted[who] < 100 {
			t.Error("hardly ever acts", who, acted)
		}
	}
}

// Promise 9: who is honest is never punished, whatever others do: nothing of it is
// forced, dropped or skipped, and it owes nothing at any time.
func TestHonestIsNeverPunished(t *testing.T) {
	eachStack(1500, []int64{40, 100, 400}, func(slots int64, plans []impl.Plan, events []impl.Event) {
		r := impl.RunStack(slots, plans, events)
		for _, n := range r.Notes {
			if n.Env == 0 && !slices.Contains([]int64{impl.NoteRun, impl.NoteYield, impl.NoteReturn}, n.Kind) {
				t.Fatal("a note of Honest", n, slots, plans, events)
			}
		}
		if a := r.Kernel.Accounts[0]; a.Debt != 0 || a.Excess != 0 || !impl.IsHonest(slots, plans, events) {
			t.Fatal("the account of Honest", a, slots, plans, events)
		}
	})
}

// Without its own acts Honest would be punished by the same events.
func TestOthersArePunishedByTheSameEvents(t *testing.T) {
	punished := 0
	eachStack(300, []int64{100}, func(slots int64, plans []impl.Plan, events []impl.Event) {
		if slices.ContainsFunc(impl.RunKernel(slots, events).Notes, func(n impl.Note) bool { return n.Env == 0 && n.Kind >= impl.NoteForced }) {
			punished++
		}
	})
	if punished < 100 {
		t.Error("so few events that punish:", punished)
	}
}

// Promise 9: in each tick that Honest uses its library goes one step, and in no
// other event.
func TestWhatHonestUsesIsOneStepEach(t *testing.T) {
	uses := 0
	eachStack(300, []int64{30, 60}, func(slots int64, plans []impl.Plan, events []impl.Event) {
		ahead := impl.RunStack(slots, plans, nil)
		for at, e := range events {
			behind := impl.RunStack(slots, plans, events[:at+1])
			steps, use := len(behind.LibNotes)-len(ahead.LibNotes), behind.Kernel.Accounts[0].Used-ahead.Kernel.Accounts[0].Used
			if e.Kind == impl.EvCall && behind.Kernel.Accounts[0].Used == 0 {
				use = 0 // it may be destroyed
			}
			acts := behind.Codes[at] == impl.OK && e.Kind == impl.EvTick && impl.WhoActs(ahead.Kernel).Value == 0
			works := acts && impl.HonestAct(ahead.Kernel, ahead.Lib).Value == impl.ActWork
			if works != (steps == 1) || works != (use == 1) || !works && (steps != 0 || use != 0) {
				t.Fatal(e, "of", ahead, "makes", behind)
			}
			if !slices.Equal(behind.LibNotes[:len(ahead.LibNotes)], ahead.LibNotes) || !slices.Equal(behind.Notes[:len(ahead.Notes)], ahead.Notes) {
				t.Fatal(e, "turns what was done", ahead, behind)
			}
			if !works && !sameLib(ahead.Lib, behind.Lib) {
				t.Fatal(e, "turns the library", ahead.Lib, behind.Lib)
			}
			uses += steps
			ahead = behind
		}
	})
	if uses < 1000 {
		t.Error("so few uses:", uses)
	}
}

// A stack is the run of the same events with the acts of Honest in them, and its
// library is one that goes as many steps.
func TestAStackIsARunAndALibrary(t *testing.T) {
	eachStack(1000, []int64{9, 40, 100, 400}, func(slots int64, plans []impl.Plan, events []impl.Event) {
		_, met, _ := toldStack(slots, plans, events)
		r := impl.RunStack(slots, plans, events)
		alone := impl.RunKernel(slots, met)
		lib := impl.RunLib(plans, int64(len(r.LibNotes)))
		wantStack(t, "stack", r, impl.StackResult{
			Kernel: alone.Kernel, Codes: alone.Codes, Notes: alone.Notes, Lib: lib.Lib, LibNotes: lib.Notes,
		})
	})
}

// honestTicks are the places of those events in which Honest acts.
func honestTicks(slots int64, plans []impl.Plan, events []impl.Event) []int {
	var places []int
	k := impl.NewKernel(slots).Kernel
	_, met, _ := toldStack(slots, plans, events)
	for at, e := range met {
		if impl.EventFault(e) != impl.OK {
			continue
		}
		next := impl.DoCall(k, e.Call)
		if e.Kind == impl.EvTick {
			next = impl.DoTick(k, e.Act)
			if impl.WhoActs(k).Value == 0 {
				places = append(places, at)
			}
		}
		if next.Code == impl.OK {
			k = next.Kernel
		}
	}
	return places
}

// Whatever stands in the ticks in which Honest acts, it comes to the same.
func TestOtherActsOfHonestTurnNothing(t *testing.T) {
	var chance steps
	acts := []impl.Act{{Kind: 1}, {Kind: 2}, {Kind: 3}, {Kind: 3, To: 1}, {Kind: 3, To: 2}, {Kind: 3, To: 3}}
	turned := 0
	eachStack(1000, []int64{9, 40, 100}, func(slots int64, plans []impl.Plan, events []impl.Event) {
		others := slices.Clone(events)
		for _, at := range honestTicks(slots, plans, events) {
			others[at].Act = acts[chance.below(6)]
			turned++
		}
		wantStack(t, "other acts", impl.RunStack(slots, plans, others), impl.RunStack(slots, plans, events))
	})
	if turned < 1000 {
		t.Error("so few acts:", turned)
	}
}
