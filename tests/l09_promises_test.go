package tests

import (
	"slices"
	"testing"

	"loop.example/g00789/impl"
)

// checkAudit asks twice, of memory that would show a change, and holds the answers
// against what the document tells.
func checkAudit(t *testing.T, slots int64, events []impl.Event, env int64, kinds ...int64) {
	t.Helper()
	whole, part := spareOf(events, tickOf(mark, mark))
	before := slices.Clone(whole)
	for range 2 {
		if got, want := impl.WindowsOf(slots, part, env), toldWindows(slots, events, env); got != want {
			t.Fatal("windows", slots, events, env, got, "want", want)
		}
		if got, want := impl.IsBalanced(slots, part, env), toldBalanced(slots, events, env); got != want || got != (toldAuditFault(slots, events, env) == impl.OK) {
			t.Fatal("balanced", slots, events, env, got, "want", want)
		}
	}
	wantRuns := toldRuns(slots, events, env)
	firstRuns, secondRuns := impl.RunsOf(slots, part, env), impl.RunsOf(slots, part, env)
	wantInts(t, "runs", firstRuns, wantRuns.Code, wantRuns.List)
	scribble(firstRuns.List)
	wantInts(t, "runs again", secondRuns, wantRuns.Code, wantRuns.List)
	for _, kind := range kinds {
		want := toldMuted(slots, events, env, kind)
		first, second := impl.MutedEvents(slots, part, env, kind), impl.MutedEvents(slots, part, env, kind)
		wantMuted(t, "muted", first, want.Code, want.Events)
		scribbleOf(first.Events, tickOf(mark, mark))
		wantMuted(t, "muted again", second, want.Code, want.Events)
		if !slices.Equal(whole, before) {
			t.Fatal("the argument was turned, or is shared", slots, events, env, kind, whole)
		}
		scribbleOf(whole, tickOf(mark, mark))
		wantMuted(t, "muted, and what it was is gone", second, want.Code, want.Events)
		copy(whole, before)
	}
	if !slices.Equal(whole, before) || t.Failed() {
		t.Fatal("an argument was turned, or an answer is another one", slots, events, env, whole)
	}
}

// held are some windows in each of which env is given what is another one's, and
// holds on to it.
func held(env int64) []impl.Event {
	other := (env + 1) % 4
	begin := []impl.Event{callOf(impl.CallCreate, env, 0, 0), callOf(impl.CallCreate, other, 0, 0), takeOf(other, 0), takeOf(other, 1), takeOf(other, 2)}
	return row(begin, times(7, row([]impl.Event{tickOf(impl.ActYield, env)}, times(8, work))...))
}

// eachAudit calls see with many rows of events, long and short, in which whatever
// may come to one comes to some.
func eachAudit(rounds int64, counts []int64, see func(slots int64, events []impl.Event, env int64)) {
	chance := steps(9)
	for range rounds {
		slots := 1 + chance.below(3)
		if chance.below(4) == 0 {
			slots = 1 + chance.below(12)
		}
		count, env := counts[chance.below(int64(len(counts)))], chance.below(4)*chance.below(2)
		events := stackEvents(&chance, slots, count)
		if chance.below(3) == 0 {
			events = slices.Insert(events, int(chance.below(count+1)), held(env)...)[:count]
		}
		see(slots, events, env)
	}
}

// Promise 1: long and short rows of events, and each env.
func TestEveryAudit(t *testing.T) {
	eachAudit(1500, []int64{0, 1, 9, 20, 40, 100, 200, 400}, func(slots int64, events []impl.Event, env int64) {
		checkAudit(t, slots, events, env, 1, 2, 3)
		checkAudit(t, slots, events, (env+1)%4, 1, 2)
	})
}

// lossesOf are what comes to env in a run, by name; what is turned in events that
// are muted is told by whether another one acts then.
func lossesOf(slots int64, events []impl.Event, env int64) (met []string) {
	r := impl.RunKernel(slots, events)
	names := []string{impl.NoteRun: "run", impl.NoteSkip: "skip", impl.NoteYield: "yield", impl.NoteReturn: "return", impl.NoteForced: "forced", impl.NoteDropped: "dropped"}
	for _, n := range r.Notes {
		if n.Env == env {
			met = append(met, names[n.Kind])
		}
	}
	wasThere := false
	eachTold(slots, events, func(k impl.Kernel, e impl.Event, code int64) {
		switch {
		case code != impl.OK:
			met = append(met, "refused")
		case e == callOf(impl.CallDestroy, env, 0, 0) && k.Run == env:
			met = append(met, "destroyed while it runs")
		case e == callOf(impl.CallDestroy, env, 0, 0) && k.Accounts[env].Debt > 0:
			met = append(met, "destroyed in debt")
		case e == callOf(impl.CallCreate, env, 0, 0) && wasThere:
			met = append(met, "comes again")
		}
		wasThere = wasThere || k.Alive[env]
	})
	if runs := impl.RunsOf(slots, events, env).List; !slices.Equal(runs, impl.RunsOf(slots, impl.MutedEvents(slots, events, env, impl.ActWork).Events, env).List) {
		met = append(met, "runs otherwise where others are muted")
	}
	return met
}

// The rows come to all that an audit may come to.
func TestTheAuditsAreOfManyKinds(t *testing.T) {
	met := map[string]int{}
	eachAudit(1000, []int64{100, 200, 400}, func(slots int64, events []impl.Event, env int64) {
		for _, name := range lossesOf(slots, events, env) {
			met[name]++
		}
	})
	for _, name := range []string{"run", "skip", "yield", "return", "forced", "dropped", "refused", "destroyed while it runs", "destroyed in debt", "comes again", "runs otherwise where others are muted"} {
		if met[name] < 50 {
			t.Error("hardly ever", name, met)
		}
	}
}

// Promise 1: every four events from the middle of a window on, which is its own or
// that of another one, and up to two windows behind.
func TestEveryShortAudit(t *testing.T) {
	of := []impl.Event{work, giveBack, toHonest, toOther, destroyHonest, createHonest, takeOf(0, 0), tickOf(impl.ActYield, 4)}
	for _, start := range [][]impl.Event{row(owned(), times(3, work)), row(lent(), times(3, toOther))} {
		eachList(4, placesOfEvents(of), func(places []int64) {
			events := slices.Clone(start)
			for _, place := range places {
				events = append(events, of[place])
			}
			events = append(events, times(16, work)...)
			checkAudit(t, 1, events, 0, 1, 2)
			checkAudit(t, 1, events, 1, 1)
		})
	}
}

func placesOfEvents(of []impl.Event) []int64 {
	return span(0, int64(len(of))-1)
}

// Promise 1: every act at every phase of a window of one, two or three hands.
func TestEveryAuditOfAWindow(t *testing.T) {
	of := []impl.Event{work, giveBack, toHonest, toOther}
	for _, start := range [][]impl.Event{owned(), lent()} {
		eachList(6, placesOfEvents(of), func(places []int64) {
			events := slices.Clone(start)
			for _, place := range places {
				events = append(events, of[place])
			}
			checkAudit(t, 1, row(events, times(5, work)), 0, 1, 2)
		})
	}
}

// Promise 1: arguments with several faults at once.
func TestEveryAuditOfSpoiledArguments(t *testing.T) {
	var chance steps
	counts := []int64{0, 1, 30, 400, 401, 402, 1000}
	for range 1500 {
		slots, env, kind := 1+chance.below(12), chance.below(4), 1+chance.below(2)
		events := stackEvents(&chance, slots, counts[chance.below(int64(len(counts)))])
		if chance.below(4) == 0 {
			slots = faultySlots[chance.below(int64(len(faultySlots)))]
		}
		if chance.below(3) == 0 {
			env = faultyEnvs[chance.below(int64(len(faultyEnvs)))]
		}
		if chance.below(2) == 0 {
			kind = faultyKinds[chance.below(int64(len(faultyKinds)))]
		}
		checkAudit(t, slots, events, env, kind)
	}
}

// Promise 1: any notes, of any env and kind.
func TestEveryCountOfNotes(t *testing.T) {
	var chance steps
	numbers := []int64{lowest, -1, 0, 1, 2, 3, 7, highest}
	for range 2000 {
		var notes []impl.Note
		for range chance.below(30) {
			notes = append(notes, noteOf(chance.below(20), numbers[chance.below(8)], numbers[chance.below(8)]))
		}
		whole, part := spareOf(notes, markedNote)
		before := slices.Clone(whole)
		for _, env := range numbers {
			for _, kind := range numbers {
				if got, want := impl.CountNotes(part, env, kind), toldNotes(notes, env, kind); got != want {
					t.Fatal(notes, env, kind, got, "want", want)
				}
			}
		}
		if !slices.Equal(whole, before) {
			t.Fatal("the argument was turned", whole)
		}
	}
}

func checkFair(t *testing.T, s impl.Sched, n int64) {
	t.Helper()
	whole, part := spareOf(s.List, markedReady)
	before := slices.Clone(whole)
	for range 2 {
		if got, want := impl.IsFair(impl.Sched{Base: s.Base, List: part}, n), toldFair(s, n); got != want || want != (toldPicks(s, n).Code == impl.OK) {
			t.Fatal("fair", s, n, got, "want", want)
		}
	}
	if !slices.Equal(whole, before) {
		t.Fatal("the argument was turned", s, whole)
	}
}

// Promises 1 and 10: however those that are ready stand, each one gets nearly what
// its tickets say; and nothing is fair that has a fault.
func TestEveryShare(t *testing.T) {
	var chance steps
	for round := range 8000 {
		s := chanceSched(&chance, round%6)
		for range max(chance.below(5)-2, 0) {
			s = spoiledSched(&chance, s)
		}
		for _, n := range []int64{0, 1, chance.below(50), chance.below(201), 200, pickCounts[chance.below(int64(len(pickCounts)))]} {
			checkFair(t, s, n)
		}
	}
}

// Promise 10: every two and three that are ready, at both ends of where they may
// stand and between, and every so often up to where all have come twice.
func TestEveryShareOfAFew(t *testing.T) {
	eachList(3, []int64{1, 2, 3, 7, 10}, func(tickets []int64) {
		eachList(3, []int64{0, 1, 2, 3}, func(rests []int64) {
			if !slices.Contains(rests, 0) {
				return
			}
			var s impl.Sched
			for id, rest := range rests {
				stride := toldStride(tickets[id])
				s.List = append(s.List, readyOf(int64(id), tickets[id], []int64{0, 1, stride / 2, stride}[rest]))
			}
			for n := range int64(26) {
				checkFair(t, s, n)
			}
		})
	})
}

// Promise 10: who is ready is picked before long: in each row of MaxWait picks there
// is each one that is ready.
func TestWhoIsReadyIsPickedBeforeLong(t *testing.T) {
	longest := 0
	see := func(s impl.Sched) {
		picks := impl.PicksOf(s, 200)
		if picks.Code != impl.OK {
			return
		}
		for _, one := range s.List {
			wait := 0
			for _, id := range picks.Ids {
				if wait++; id == one.Id {
					wait = 0
				}
				if longest = max(longest, wait); wait >= impl.MaxWait {
					t.Fatal(one, "waits too long", s, picks.Ids)
				}
			}
		}
	}
	eachRightSched(3000, see)
	see(oneBehind(1, 10, 10, 10, 10))
	if longest != impl.MaxWait-1 {
		t.Error("nobody is picked just in time, but after", longest)
	}
}

func checkServed(t *testing.T, plans []impl.Plan, count int64) {
	t.Helper()
	ops, whole, part := sparePlans(plans)
	opsBefore, wholeBefore := slices.Clone(ops), slices.Clone(whole)
	right := toldStepsFault(plans, count) == impl.OK
	served, lawful := toldServed(plans, count), toldLawful(plans, count)
	for range 2 {
		if got := impl.IsServed(part, count); got != served || got != right {
			t.Fatal("served", plans, count, got, "want", served)
		}
		if got := impl.IsLawful(part, count); got != lawful || got != right {
			t.Fatal("lawful", plans, count, got, "want", lawful)
		}
	}
	if !slices.Equal(ops, opsBefore) || !samePlans(whole, wholeBefore) {
		t.Fatal("an argument was turned", plans, part)
	}
}

// Promises 1 and 10: who can go on is picked before long, and each thread is where
// its state says, for few steps and for many.
func TestEveryServiceOnChancePlans(t *testing.T) {
	var chance steps
	for range 1500 {
		plans := chancePlans(&chance)
		checkServed(t, plans, chance.below(60))
		if chance.below(10) == 0 {
			checkServed(t, plans, 300)
		}
	}
}

// Promise 1: plans that are right but for some faults, and steps on both sides of
// each bound.
func TestEveryServiceOnSpoiledPlans(t *testing.T) {
	var chance steps
	counts := []int64{lowest, -1, 0, 1, 12, 44, 45, 46, 300, 301, 1 << 32, highest}
	for range 3000 {
		plans := chancePlans(&chance)
		for range chance.below(4) {
			plans = spoiledPlans(&chance, plans)
		}
		checkServed(t, plans, counts[chance.below(int64(len(counts)))])
	}
}

// Promise 10: the library of the program itself, behind each number of steps, keeps
// the laws, and its notes let nobody wait for long.
func TestTheLibrariesKeepTheLaws(t *testing.T) {
	var chance steps
	for range 300 {
		plans := chancePlans(&chance)
		all := impl.RunLib(plans, 80)
		waits := make([]int, len(plans))
		for count := range int64(80) {
			l := impl.RunLib(plans, count).Lib
			if !toldKeepsLaws(l) {
				t.Fatal("laws", plans, count, l)
			}
			for id := range waits {
				if waits[id]++; toldPlace(l.Sched, int64(id)) < 0 || all.Notes[count].Id == int64(id) {
					waits[id] = 0
				}
				if waits[id] >= impl.MaxWait {
					t.Fatal(id, "waits too long", plans, count, all.Notes)
				}
			}
		}
	}
}

// Promise 10: each window of one is one that it ran in or skipped, and each window
// is somebody's, or nobody's.
func TestEachWindowOfOneIsRunInOrSkipped(t *testing.T) {
	eachAudit(600, []int64{9, 40, 100, 400}, func(slots int64, events []impl.Event, _ int64) {
		r := impl.RunKernel(slots, events)
		all := impl.CountNotes(r.Notes, nobody, impl.NoteIdle)
		for env := range int64(4) {
			windows := impl.WindowsOf(slots, events, env).Value
			if windows != impl.CountNotes(r.Notes, env, impl.NoteRun)+impl.CountNotes(r.Notes, env, impl.NoteSkip) {
				t.Fatal("windows of", env, windows, slots, events, r.Notes)
			}
			all += windows
		}
		if all != (r.Kernel.Tick+8)/9 {
			t.Fatal("so many windows", all, slots, events, r.Notes)
		}
	})
}

// Each tick is that of one who acts, or of nobody; who begins a window acts in it.
func TestEachTickIsRunByOneAtMost(t *testing.T) {
	eachAudit(600, []int64{9, 40, 100, 400}, func(slots int64, events []impl.Event, _ int64) {
		r := impl.RunKernel(slots, events)
		acting := map[int64]int64{}
		for env := range int64(4) {
			runs := impl.RunsOf(slots, events, env).List
			if !slices.IsSorted(runs) {
				t.Fatal("runs fall", env, runs)
			}
			for _, tick := range runs {
				if other, is := acting[tick]; is || !among(tick, 0, r.Kernel.Tick-1) {
					t.Fatal("the tick", tick, "is run by", env, "and", other, slots, events)
				}
				acting[tick] = env
			}
		}
		for _, n := range r.Notes {
			env, is := acting[n.Tick]
			if n.Kind == impl.NoteRun && (!is || env != n.Env) || n.Kind == impl.NoteSkip && is || n.Kind == impl.NoteIdle && is ||
				n.Kind == impl.NoteReturn && (!is || env != n.Env) || n.Kind == impl.NoteYield && (!is || env == n.Env) {
				t.Fatal("note", n, "but it runs", env, is, slots, events)
			}
		}
	})
}

// Promise 10: when one runs does not hang on what others do in their own time: it is
// the same whether they work, give back or do whatever they like, as long as they
// give nothing to it.
func TestWhenOneRunsDoesNotHangOnOthers(t *testing.T) {
	var chance steps
	gave := 0
	eachAudit(1500, []int64{9, 40, 100, 400}, func(slots int64, events []impl.Event, env int64) {
		works := impl.MutedEvents(slots, events, env, impl.ActWork).Events
		returns := impl.MutedEvents(slots, events, env, impl.ActReturn).Events
		runs := impl.RunsOf(slots, works, env).List
		wantInts(t, "they give back", impl.RunsOf(slots, returns, env), impl.OK, runs)
		wantMuted(t, "they give back no more", impl.MutedEvents(slots, returns, env, impl.ActWork), impl.OK, works)
		wantMuted(t, "they work no more", impl.MutedEvents(slots, works, env, impl.ActReturn), impl.OK, returns)
		others := slices.Clone(works)
		for at := range others {
			if works[at] != returns[at] && chance.below(3) > 0 {
				others[at] = []impl.Event{giveBack, tickOf(impl.ActYield, (env+1)%4), tickOf(impl.ActYield, (env+2)%4), tickOf(impl.ActYield, (env+3)%4)}[chance.below(4)]
			}
		}
		wantInts(t, "they do whatever they like", impl.RunsOf(slots, others, env), impl.OK, runs)
		wantMuted(t, "they do whatever they like no more", impl.MutedEvents(slots, others, env, impl.ActWork), impl.OK, works)
		if impl.CountNotes(impl.RunKernel(slots, events).Notes, env, impl.NoteYield) == 0 {
			wantInts(t, "they did not give", impl.RunsOf(slots, events, env), impl.OK, runs)
		} else {
			gave++
		}
		if t.Failed() {
			t.Fatal(slots, events, env)
		}
	})
	if !among(int64(gave), 200, 1300) {
		t.Error("it is given too often, or hardly ever:", gave)
	}
}
