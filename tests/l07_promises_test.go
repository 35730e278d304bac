package tests

import (
	"slices"
	"testing"

	"loop.example/g00789/impl"
)

var (
	markedOp      = impl.Op{Kind: mark, Lock: mark, Cond: mark}
	markedPlan    = impl.Plan{Tickets: mark}
	markedThread  = impl.Thread{Tickets: mark, Pc: mark, State: mark, Rest: mark, Lock: mark}
	markedLibNote = impl.LibNote{Id: mark, Kind: mark, Code: mark}
)

// checkLibAnswer takes an answer to pieces: to write into one of its lists leaves
// all others as they are.
func checkLibAnswer(t *testing.T, name string, r impl.LibResult, want impl.LibResult) {
	t.Helper()
	if !sameLibResults(r, want) {
		t.Fatalf("%s:\n got %v\nwant %v", name, r, want)
	}
	scribbleOf(r.Notes, markedLibNote)
	scribbleOf(r.Lib.Sched.List, markedReady)
	scribbleOf(r.Lib.Threads, markedThread)
	for at, lock := range r.Lib.Locks {
		if !slices.Equal(lock.Queue, want.Lib.Locks[at].Queue) {
			t.Fatalf("%s: the queue of %d is shared: %v, want %v", name, at, lock, want.Lib.Locks[at])
		}
		scribble(lock.Queue)
	}
	for at, cond := range r.Lib.Conds {
		if !slices.Equal(cond, want.Lib.Conds[at]) {
			t.Fatalf("%s: the cond %d is shared: %v, want %v", name, at, cond, want.Lib.Conds[at])
		}
		scribble(cond)
	}
	scribbleOf(r.Lib.Locks, lockOf(mark))
	scribbleOf(r.Lib.Conds, []int64{mark})
}

// sparePlans copies plans so that the ops of all stand in one memory, one behind
// the other, and an append to any of these lists is seen.
func sparePlans(plans []impl.Plan) (ops []impl.Op, whole []impl.Plan, part []impl.Plan) {
	var all []impl.Op
	for _, p := range plans {
		all = append(all, p.Ops...)
	}
	ops, _ = spareOf(all, markedOp)
	whole, part = spareOf(plans, markedPlan)
	at := 0
	for place, p := range plans {
		part[place].Ops = ops[at : at+len(p.Ops)]
		at += len(p.Ops)
	}
	return ops, whole, part
}

func samePlans(a []impl.Plan, b []impl.Plan) bool {
	return slices.EqualFunc(a, b, func(a impl.Plan, b impl.Plan) bool {
		return a.Tickets == b.Tickets && slices.Equal(a.Ops, b.Ops)
	})
}

// checkRun asks twice, of memory that would show a change, and holds the answers
// against what the document tells.
func checkRun(t *testing.T, plans []impl.Plan, steps int64) {
	t.Helper()
	want := toldRunLib(plans, steps)
	ops, whole, part := sparePlans(plans)
	opsBefore, wholeBefore := slices.Clone(ops), slices.Clone(whole)
	fault := impl.PlansFault(part)
	first, second := impl.RunLib(part, steps), impl.RunLib(part, steps)
	if fault != toldPlansFault(plans) {
		t.Fatalf("fault of %v: %d, want %d", plans, fault, toldPlansFault(plans))
	}
	checkLibAnswer(t, "run", first, want)
	if !slices.Equal(ops, opsBefore) || !samePlans(whole, wholeBefore) {
		t.Fatalf("an argument was turned: %v is %v now", plans, part)
	}
	scribbleOf(ops, markedOp)
	scribbleOf(whole, markedPlan)
	checkLibAnswer(t, "run again", second, want)
}

// Promise 1: every op, of numbers on both sides of each bound.
func TestEveryOp(t *testing.T) {
	numbers := []int64{lowest, -1, 0, 1, 2, 3, 1 << 32, highest}
	for _, kind := range []int64{lowest, -1, 0, 1, 2, 3, 4, 5, 6, 7, 8, 1<<32 + 1, highest} {
		for _, lock := range numbers {
			for _, cond := range numbers {
				o := impl.Op{Kind: kind, Lock: lock, Cond: cond}
				wantCode(t, "op", impl.OpFault(o), toldOpFault(o))
			}
		}
	}
}

// shortOps are all that do another thing: what a signal and a broadcast name as
// their lock means nothing, and is now the one and now the other.
func shortOps() []impl.Op {
	return []impl.Op{opWork(), opLock(0), opLock(1), opUnlock(0), opUnlock(1), opWait(0, 0), opWait(0, 1), opWait(1, 0), opWait(1, 1),
		opSignal(0, 0), opSignal(1, 1), opBroadcast(1, 0), opBroadcast(0, 1)}
}

// opsOf are the ops with these places.
func opsOf(of []impl.Op, places []int64) []impl.Op {
	var ops []impl.Op
	for _, place := range places {
		ops = append(ops, of[place])
	}
	return ops
}

func placesOf(of []impl.Op) []int64 {
	var places []int64
	for place := range of {
		places = append(places, int64(place))
	}
	return places
}

// Promise 1: one thread with every plan of up to three ops.
func TestEveryShortPlan(t *testing.T) {
	of := shortOps()
	eachQueue(3, placesOf(of), func(places []int64) {
		for steps := range int64(len(places) + 3) {
			checkRun(t, []impl.Plan{planOf(3, opsOf(of, places)...)}, steps)
		}
	})
}

// Promise 1: every two threads with plans of up to two ops, where the first one
// takes both locks ahead of these, so that there is something to wait for.
func TestEveryTwoShortPlans(t *testing.T) {
	of := shortOps()
	eachQueue(2, placesOf(of), func(first []int64) {
		eachQueue(2, placesOf(of), func(second []int64) {
			plans := []impl.Plan{planOf(5, append([]impl.Op{opLock(0), opLock(1)}, opsOf(of, first)...)...), planOf(2, opsOf(of, second)...)}
			checkRun(t, plans, int64(4+len(first)+len(second)))
		})
	})
}

// waitingOps are those of one that takes a lock and waits, and of one that lets
// the lock go, too, when it is back.
func waitingOps() [][]impl.Op {
	var of [][]impl.Op
	for lock := range int64(2) {
		for cond := range int64(2) {
			of = append(of, []impl.Op{opLock(lock), opWait(lock, cond)}, []impl.Op{opLock(lock), opWait(lock, cond), opUnlock(lock)})
		}
	}
	return of
}

// chancePlans are without a fault. Every other time most of them begin by waiting,
// in one of two ways, and the others broadcast, so that many wait at once.
func chancePlans(chance *steps) []impl.Plan {
	waiting := waitingOps()
	of := waitingOps()
	for _, o := range shortOps() {
		of = append(of, []impl.Op{o})
	}
	begins := [][]impl.Op{waiting[chance.below(8)], waiting[chance.below(8)]}
	mixed := chance.below(2) == 0
	var plans []impl.Plan
	for range 1 + chance.below(5) {
		p := planOf(1 + chance.below(10))
		if mixed && chance.below(4) == 0 {
			p.Ops = append(slices.Repeat([]impl.Op{opWork()}, int(chance.below(7))), opBroadcast(0, chance.below(2)))
		} else if mixed {
			p.Ops = slices.Clone(begins[chance.below(2)])
		}
		for range chance.below(9) {
			p.Ops = append(p.Ops, of[chance.below(int64(len(of)))]...)
		}
		p.Ops = p.Ops[:min(len(p.Ops), 8)]
		plans = append(plans, p)
	}
	return plans
}

// Promise 1: long runs of many threads, in which up to four wait for the same.
func TestEveryCallOnChancePlans(t *testing.T) {
	var chance steps
	wait, woken := [5]int{}, [5]int{}
	for range 10000 {
		plans := chancePlans(&chance)
		checkRun(t, plans, chance.below(40))
		if chance.below(20) == 0 {
			checkRun(t, plans, 300)
		}
		l := toldLibAtFirst(plans)
		for range 40 {
			ahead := ownLib(l)
			note := toldStep(plans, &l)
			for at := range 2 {
				wait[len(l.Locks[at].Queue)]++
				if note.Kind == impl.OpBroadcast {
					woken[len(ahead.Conds[at])-len(l.Conds[at])]++
				}
			}
		}
	}
	for many := range 5 {
		if wait[many] < 20 || woken[many] < 20 {
			t.Error("hardly ever so many wait, or are woken at once", wait, woken)
		}
	}
}

// spoiledPlans puts one fault into plans that are the caller's own.
func spoiledPlans(chance *steps, plans []impl.Plan) []impl.Plan {
	if len(plans) == 0 {
		return plans
	}
	p := &plans[chance.below(int64(len(plans)))]
	numbers := []int64{lowest, -1, 0, 1, 2, 7, 11, highest}
	number := numbers[chance.below(int64(len(numbers)))]
	switch chance.below(8) {
	case 0:
		return nil
	case 1:
		return append(plans, plans...)
	case 2:
		p.Tickets = number
	case 3:
		p.Ops = append(p.Ops, slices.Repeat([]impl.Op{opWork()}, int(chance.below(9)))...)
	default:
		if len(p.Ops) == 0 {
			p.Ops = append(p.Ops, opWork())
		}
		o := &p.Ops[chance.below(int64(len(p.Ops)))]
		*[]*int64{&o.Kind, &o.Lock, &o.Cond}[chance.below(3)] = number
	}
	return plans
}

// Promise 1: plans that are right but for some faults, and steps on both sides of
// each bound.
func TestEveryCallOnSpoiledPlans(t *testing.T) {
	var chance steps
	counts := []int64{lowest, -1, 0, 1, 12, 300, 301, 1 << 32, highest}
	for range 20000 {
		plans := chancePlans(&chance)
		for range 1 + chance.below(3) {
			plans = spoiledPlans(&chance, plans)
		}
		checkRun(t, plans, counts[chance.below(int64(len(counts)))])
	}
}

// Promise 1: what a library holds is told of any, with few locks or many, and to
// be asked turns nothing.
func TestEveryHeldBy(t *testing.T) {
	eachQueue(4, []int64{lowest, -1, 0, 1, 4, 5}, func(owners []int64) {
		var locks []impl.Lock
		for _, owner := range owners {
			locks = append(locks, lockOf(owner, 1, 1))
		}
		whole, part := spareOf(locks, lockOf(mark))
		before := ownLib(impl.Lib{Locks: whole})
		for _, id := range threadIds {
			want := toldHeld(impl.Lib{Locks: locks}, id)
			first, second := impl.HeldBy(impl.Lib{Locks: part}, id), impl.HeldBy(impl.Lib{Locks: part}, id)
			scribble(first.List)
			if second.Code != want.Code || !slices.Equal(second.List, want.List) || len(first.List) != len(want.List) {
				t.Fatal(owners, id, second, want)
			}
			if !sameLib(impl.Lib{Locks: whole}, before) {
				t.Fatal("the argument was turned", owners, id)
			}
		}
	})
}

// Promise 1: libraries are the same when all fields are; to be asked turns neither.
func TestEveryTwoLibsAreCompared(t *testing.T) {
	var chance steps
	var all []impl.Lib
	for range 30 {
		plans := chancePlans(&chance)
		for steps := range int64(12) {
			all = append(all, toldRunLib(plans, steps).Lib)
		}
	}
	for _, a := range all {
		for _, b := range all {
			if got := impl.SameLibs(a, ownLib(b)); got != sameLib(a, b) {
				t.Fatal(a, b, got)
			}
		}
	}
	a, b := fullLib(), fullLib()
	b.Conds[1] = nil
	beforeA, beforeB := ownLib(a), ownLib(b)
	impl.SameLibs(a, b)
	if !sameLib(a, beforeA) || !sameLib(b, beforeB) {
		t.Fatal("an argument was turned", a, b)
	}
}

// Promise 8: what was done in the first k of n steps is what k steps do.
func TestTheFirstStepsAreDoneAlike(t *testing.T) {
	var chance steps
	for range 300 {
		plans := chancePlans(&chance)
		all := impl.RunLib(plans, 300)
		for steps := range int64(60) {
			some := impl.RunLib(plans, steps)
			if some.Code != impl.OK || !slices.Equal(some.Notes, all.Notes[:steps]) {
				t.Fatal(plans, steps, some.Notes, all.Notes[:steps])
			}
		}
	}
}

// Promise 8: what was done does not hang on the ops that nobody has come to.
func TestOpsToComeTurnNothing(t *testing.T) {
	var chance steps
	for range 2000 {
		plans := chancePlans(&chance)
		steps := chance.below(30)
		before := impl.RunLib(plans, steps)
		for id, p := range chancePlans(&chance) {
			if id >= len(plans) || before.Lib.Threads[id].State == impl.StDone {
				continue
			}
			pc := before.Lib.Threads[id].Pc
			plans[id].Ops = append(slices.Clone(plans[id].Ops[:pc]), p.Ops[:min(int64(len(p.Ops)), 8-pc)]...)
		}
		wantLib(t, "other ops to come", impl.RunLib(plans, steps), before)
	}
}

// Promise 8: each step has one note, of the one that is picked and of the op that
// it is at, or of nobody where nobody is ready.
func TestEachStepHasOneNote(t *testing.T) {
	var chance steps
	for range 300 {
		plans := chancePlans(&chance)
		for steps := range int64(40) {
			ahead, behind := impl.RunLib(plans, steps), impl.RunLib(plans, steps+1)
			if len(ahead.Notes) != int(steps) || len(behind.Notes) != int(steps)+1 {
				t.Fatal("so many", steps, ahead, behind)
			}
			note := behind.Notes[steps]
			picked := impl.PickSched(ahead.Lib.Sched)
			if picked.Code == impl.ErrNone {
				if note != nobodyDid() || !sameLib(ahead.Lib, behind.Lib) {
					t.Fatal("nobody", note, ahead.Lib, behind.Lib)
				}
				continue
			}
			if note.Id != picked.Id || note.Kind != toldOpAt(plans, ahead.Lib, picked.Id).Kind {
				t.Fatal("note", note, "picked", picked, ahead.Lib)
			}
		}
	}
}

// Promise 8: who is told to do what it may not turns nothing but its Pc, and that
// it was its turn.
func TestWhoMayNotTurnsNothing(t *testing.T) {
	var chance steps
	refused := map[impl.LibNote]int{}
	for range 1500 {
		plans := chancePlans(&chance)
		for steps, note := range impl.RunLib(plans, 30).Notes {
			if note.Code == impl.OK {
				continue
			}
			want := ownLib(impl.RunLib(plans, int64(steps)).Lib)
			want.Sched = impl.PickSched(want.Sched).Sched
			want.Threads[note.Id].Pc++
			if got := impl.RunLib(plans, int64(steps)+1).Lib; !sameLib(got, want) {
				t.Fatal(plans, note, got, want)
			}
			refused[impl.LibNote{Kind: note.Kind, Code: note.Code}]++
		}
	}
	for _, kind := range []impl.LibNote{not(0, impl.OpLock, impl.ErrTaken), not(0, impl.OpUnlock, impl.ErrOwner), not(0, impl.OpWait, impl.ErrOwner)} {
		if refused[kind] < 100 {
			t.Error("hardly ever refused", kind, refused[kind])
		}
	}
	if len(refused) != 3 {
		t.Error("refused", refused)
	}
}

// checkStands wants each thread to be where its state says, and nowhere else.
func checkStands(t *testing.T, l impl.Lib) {
	t.Helper()
	if impl.SchedFault(l.Sched) != impl.OK || len(l.Locks) != 2 || len(l.Conds) != 2 {
		t.Fatal("library", l)
	}
	for id, one := range l.Threads {
		id := int64(id)
		ready := slices.ContainsFunc(l.Sched.List, func(r impl.Ready) bool { return r.Id == id && r.Tickets == one.Tickets })
		var blocked, waiting []int64
		for at := range l.Locks {
			if impl.LockFault(l.Locks[at]) != impl.OK || impl.QueueFault(l.Conds[at]) != impl.OK {
				t.Fatal("queues", l)
			}
			if slices.Contains(l.Locks[at].Queue, id) {
				blocked = append(blocked, int64(at))
			}
			if slices.Contains(l.Conds[at], id) {
				waiting = append(waiting, int64(at))
			}
		}
		stands := false
		switch one.State {
		case impl.StReady:
			stands = ready && len(blocked)+len(waiting) == 0 && one.Rest == 0 && one.Lock == 0
		case impl.StBlocked:
			stands = !ready && slices.Equal(blocked, []int64{one.Lock}) && len(waiting) == 0
		case impl.StWaiting:
			stands = !ready && len(blocked) == 0 && len(waiting) == 1 && l.Locks[one.Lock].Owner != id
		case impl.StDone:
			stands = !ready && len(blocked)+len(waiting) == 0 && one.Lock == 0 && len(impl.HeldBy(l, id).List) == 0
		}
		if !stands {
			t.Fatal("thread", id, l)
		}
	}
}

// Promise 8: behind each step each thread is where its state says; so nobody is
// lost, and nobody turns what is another one's.
func TestEachThreadIsWhereItsStateSays(t *testing.T) {
	var chance steps
	met := map[int64]int{}
	for range 400 {
		plans := chancePlans(&chance)
		for steps := range int64(40) {
			l := impl.RunLib(plans, steps).Lib
			checkStands(t, l)
			for _, one := range l.Threads {
				met[one.State]++
			}
		}
	}
	for state := int64(impl.StReady); state <= impl.StDone; state++ {
		if met[state] < 1000 {
			t.Error("hardly ever met", state, met)
		}
	}
}
