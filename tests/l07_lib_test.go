package tests

import (
	"slices"
	"testing"

	"loop.example/g00789/impl"
)

func opWork() impl.Op {
	return impl.Op{Kind: impl.OpWork}
}

func opLock(lock int64) impl.Op {
	return impl.Op{Kind: impl.OpLock, Lock: lock}
}

func opUnlock(lock int64) impl.Op {
	return impl.Op{Kind: impl.OpUnlock, Lock: lock}
}

func opWait(lock int64, cond int64) impl.Op {
	return impl.Op{Kind: impl.OpWait, Lock: lock, Cond: cond}
}

func opSignal(lock int64, cond int64) impl.Op {
	return impl.Op{Kind: impl.OpSignal, Lock: lock, Cond: cond}
}

func opBroadcast(lock int64, cond int64) impl.Op {
	return impl.Op{Kind: impl.OpBroadcast, Lock: lock, Cond: cond}
}

func planOf(tickets int64, ops ...impl.Op) impl.Plan {
	return impl.Plan{Tickets: tickets, Ops: ops}
}

// did, not and nobodyDid are the notes of steps: who did what, who was refused it
// by which code, and that nobody was there.
func did(id int64, kind int64) impl.LibNote {
	return impl.LibNote{Id: id, Kind: kind}
}

func not(id int64, kind int64, code int64) impl.LibNote {
	return impl.LibNote{Id: id, Kind: kind, Code: code}
}

func nobodyDid() impl.LibNote {
	return impl.LibNote{Id: -1}
}

func readyAt(tickets int64, pc int64) impl.Thread {
	return impl.Thread{Tickets: tickets, Pc: pc, State: impl.StReady}
}

func blockedAt(tickets int64, pc int64, rest int64, lock int64) impl.Thread {
	return impl.Thread{Tickets: tickets, Pc: pc, State: impl.StBlocked, Rest: rest, Lock: lock}
}

func waitingAt(tickets int64, pc int64, rest int64, lock int64) impl.Thread {
	return impl.Thread{Tickets: tickets, Pc: pc, State: impl.StWaiting, Rest: rest, Lock: lock}
}

func doneAt(tickets int64, pc int64, rest int64) impl.Thread {
	return impl.Thread{Tickets: tickets, Pc: pc, State: impl.StDone, Rest: rest}
}

func bothLocks(first impl.Lock, second impl.Lock) []impl.Lock {
	return []impl.Lock{first, second}
}

func bothConds(first []int64, second []int64) [][]int64 {
	return [][]int64{first, second}
}

func libOf(s impl.Sched, locks []impl.Lock, conds [][]int64, threads ...impl.Thread) impl.Lib {
	return impl.Lib{Sched: s, Threads: threads, Locks: locks, Conds: conds}
}

// quietLib is one in which nobody owns or waits for anything.
func quietLib(s impl.Sched, threads ...impl.Thread) impl.Lib {
	return libOf(s, bothLocks(nobodys(), nobodys()), bothConds(nil, nil), threads...)
}

func sameLib(a impl.Lib, b impl.Lib) bool {
	return sameSched(a.Sched, b.Sched) && slices.Equal(a.Threads, b.Threads) &&
		slices.EqualFunc(a.Locks, b.Locks, sameLock) && slices.EqualFunc(a.Conds, b.Conds, slices.Equal[[]int64])
}

func sameLibResults(a impl.LibResult, b impl.LibResult) bool {
	return a.Code == b.Code && sameLib(a.Lib, b.Lib) && slices.Equal(a.Notes, b.Notes)
}

func wantLib(t *testing.T, name string, got impl.LibResult, want impl.LibResult) {
	t.Helper()
	if !sameLibResults(got, want) {
		t.Errorf("%s:\n got %v\nwant %v", name, got, want)
	}
}

func libDenied(code int64) impl.LibResult {
	return impl.LibResult{Code: code}
}

func TestNumbersOfLibraries(t *testing.T) {
	bounds := []int64{impl.MaxOps, impl.MaxLocks, impl.MaxConds, impl.MaxSteps}
	if !slices.Equal(bounds, []int64{8, 2, 2, 300}) {
		t.Error("bounds", bounds)
	}
	kinds := []int64{impl.OpEnd, impl.OpWork, impl.OpLock, impl.OpUnlock, impl.OpWait, impl.OpSignal, impl.OpBroadcast}
	if !slices.Equal(kinds, []int64{0, 1, 2, 3, 4, 5, 6}) {
		t.Error("kinds", kinds)
	}
	states := []int64{impl.StReady, impl.StBlocked, impl.StWaiting, impl.StDone}
	if !slices.Equal(states, []int64{1, 2, 3, 4}) {
		t.Error("states", states)
	}
}

// rightOps are all ops that have no fault.
func rightOps() []impl.Op {
	ops := []impl.Op{opWork()}
	for lock := range int64(2) {
		ops = append(ops, opLock(lock), opUnlock(lock))
		for cond := range int64(2) {
			ops = append(ops, opWait(lock, cond), opSignal(lock, cond), opBroadcast(lock, cond))
		}
	}
	return ops
}

// faultyOps have one fault or several, with the code that is asked first.
var faultyOps = []struct {
	name string
	o    impl.Op
	want int64
}{
	{"zero, which is an end", impl.Op{}, impl.ErrForm},
	{"an end with a lock", impl.Op{Kind: impl.OpEnd, Lock: 1}, impl.ErrForm},
	{"an end with a cond above", impl.Op{Kind: impl.OpEnd, Cond: 2}, impl.ErrForm},
	{"kind below", impl.Op{Kind: -1}, impl.ErrForm},
	{"kind above", impl.Op{Kind: 7}, impl.ErrForm},
	{"the lowest kind", impl.Op{Kind: lowest}, impl.ErrForm},
	{"the highest kind", impl.Op{Kind: highest}, impl.ErrForm},
	{"kind beyond 32 bits", impl.Op{Kind: 1<<32 + 1}, impl.ErrForm},
	{"kind above, and lock above", impl.Op{Kind: 7, Lock: 2}, impl.ErrForm},
	{"kind below, and cond below", impl.Op{Kind: -1, Cond: -1}, impl.ErrForm},
	{"work with a lock", impl.Op{Kind: impl.OpWork, Lock: 1}, impl.ErrForm},
	{"work with a cond", impl.Op{Kind: impl.OpWork, Cond: 1}, impl.ErrForm},
	{"work with both", impl.Op{Kind: impl.OpWork, Lock: 1, Cond: 1}, impl.ErrForm},
	{"work with a lock below", impl.Op{Kind: impl.OpWork, Lock: -1}, impl.ErrForm},
	{"work with a cond above", impl.Op{Kind: impl.OpWork, Cond: 2}, impl.ErrForm},
	{"work with the highest cond", impl.Op{Kind: impl.OpWork, Cond: highest}, impl.ErrForm},
	{"lock with a cond", impl.Op{Kind: impl.OpLock, Cond: 1}, impl.ErrForm},
	{"lock with a cond below", impl.Op{Kind: impl.OpLock, Cond: -1}, impl.ErrForm},
	{"lock with a cond above", impl.Op{Kind: impl.OpLock, Lock: 1, Cond: 2}, impl.ErrForm},
	{"lock above with a cond", impl.Op{Kind: impl.OpLock, Lock: 2, Cond: 1}, impl.ErrForm},
	{"unlock with a cond", impl.Op{Kind: impl.OpUnlock, Lock: 1, Cond: 1}, impl.ErrForm},
	{"unlock with the lowest cond", impl.Op{Kind: impl.OpUnlock, Cond: lowest}, impl.ErrForm},
	{"unlock below with a cond above", impl.Op{Kind: impl.OpUnlock, Lock: -1, Cond: 2}, impl.ErrForm},
	{"lock below", opLock(-1), impl.ErrRange},
	{"lock above", opLock(2), impl.ErrRange},
	{"the lowest lock", opLock(lowest), impl.ErrRange},
	{"the highest lock", opLock(highest), impl.ErrRange},
	{"lock beyond 32 bits", opLock(1 << 32), impl.ErrRange},
	{"unlock below", opUnlock(-1), impl.ErrRange},
	{"unlock above", opUnlock(2), impl.ErrRange},
	{"unlock beyond 32 bits", opUnlock(1<<32 + 1), impl.ErrRange},
	{"wait with a lock below", opWait(-1, 0), impl.ErrRange},
	{"wait with a lock above", opWait(2, 0), impl.ErrRange},
	{"wait with a cond below", opWait(0, -1), impl.ErrRange},
	{"wait with a cond above", opWait(1, 2), impl.ErrRange},
	{"wait with both above", opWait(2, 2), impl.ErrRange},
	{"wait with the lowest and the highest", opWait(lowest, highest), impl.ErrRange},
	{"signal with a lock below", opSignal(-1, 0), impl.ErrRange},
	{"signal with a lock above", opSignal(2, 1), impl.ErrRange},
	{"signal with a cond below", opSignal(1, -1), impl.ErrRange},
	{"signal with a cond above", opSignal(0, 2), impl.ErrRange},
	{"signal with a cond beyond 32 bits", opSignal(0, 1<<32), impl.ErrRange},
	{"broadcast with a lock below", opBroadcast(-1, 1), impl.ErrRange},
	{"broadcast with a lock above", opBroadcast(2, 0), impl.ErrRange},
	{"broadcast with a cond below", opBroadcast(0, -1), impl.ErrRange},
	{"broadcast with a cond above", opBroadcast(0, 2), impl.ErrRange},
	{"broadcast with the highest both", opBroadcast(highest, highest), impl.ErrRange},
}

func TestOpFault(t *testing.T) {
	for _, o := range rightOps() {
		wantCode(t, "a right one", impl.OpFault(o), impl.OK)
	}
	for _, c := range faultyOps {
		wantCode(t, c.name, impl.OpFault(c.o), c.want)
	}
}

var rightPlans = []struct {
	name  string
	plans []impl.Plan
}{
	{"one with no ops", []impl.Plan{planOf(1)}},
	{"one with an empty list of ops", []impl.Plan{{Tickets: 10, Ops: []impl.Op{}}}},
	{"one op", []impl.Plan{planOf(5, opBroadcast(1, 1))}},
	{"as many ops as there may be", []impl.Plan{planOf(1, rightOps()[:8]...)}},
	{"two", []impl.Plan{planOf(1, opLock(0)), planOf(10)}},
	{"as many as there may be", []impl.Plan{planOf(1), planOf(2), planOf(3), planOf(4), planOf(5)}},
	{"as many as there may be, all the same", slices.Repeat([]impl.Plan{planOf(10, slices.Repeat([]impl.Op{opWait(1, 1)}, 8)...)}, 5)},
}

// faultyPlans have one fault or several, with the code that is asked first.
var faultyPlans = []struct {
	name  string
	plans []impl.Plan
	want  int64
}{
	{"nil", nil, impl.ErrMany},
	{"empty", []impl.Plan{}, impl.ErrMany},
	{"too many", slices.Repeat([]impl.Plan{planOf(1)}, 6), impl.ErrMany},
	{"many more", make([]impl.Plan, 1000), impl.ErrMany},
	{"too many, and none has tickets", make([]impl.Plan, 6), impl.ErrMany},
	{"too many, and the first one has an op that is none", append([]impl.Plan{planOf(1, impl.Op{})}, slices.Repeat([]impl.Plan{planOf(1)}, 5)...), impl.ErrMany},
	{"zero", []impl.Plan{{}}, impl.ErrRange},
	{"tickets below", []impl.Plan{planOf(0, opWork())}, impl.ErrRange},
	{"tickets below 0", []impl.Plan{planOf(-1)}, impl.ErrRange},
	{"tickets above", []impl.Plan{planOf(11)}, impl.ErrRange},
	{"the lowest tickets", []impl.Plan{planOf(lowest)}, impl.ErrRange},
	{"the highest tickets", []impl.Plan{planOf(highest)}, impl.ErrRange},
	{"tickets beyond 32 bits", []impl.Plan{planOf(1<<32 + 1)}, impl.ErrRange},
	{"tickets above in the last one", []impl.Plan{planOf(1), planOf(2), planOf(11)}, impl.ErrRange},
	{"tickets below, and too many ops", []impl.Plan{planOf(0, make([]impl.Op, 9)...)}, impl.ErrRange},
	{"tickets below, and an op that is none", []impl.Plan{planOf(0, impl.Op{})}, impl.ErrRange},
	{"too many ops", []impl.Plan{planOf(1, slices.Repeat([]impl.Op{opWork()}, 9)...)}, impl.ErrMany},
	{"many more ops", []impl.Plan{planOf(1, slices.Repeat([]impl.Op{opWork()}, 1000)...)}, impl.ErrMany},
	{"too many ops that are none", []impl.Plan{planOf(1, make([]impl.Op, 9)...)}, impl.ErrMany},
	{"too many ops, the first one out of its bounds", []impl.Plan{planOf(1, slices.Repeat([]impl.Op{opLock(2)}, 9)...)}, impl.ErrMany},
	{"too many ops in the last one", []impl.Plan{planOf(1, opWork()), planOf(1, slices.Repeat([]impl.Op{opWork()}, 9)...)}, impl.ErrMany},
	{"an end", []impl.Plan{planOf(1, impl.Op{Kind: impl.OpEnd})}, impl.ErrForm},
	{"an end behind others", []impl.Plan{planOf(1, opWork(), opLock(1), impl.Op{})}, impl.ErrForm},
	{"an op that is none, as the last of as many as there may be", []impl.Plan{planOf(1, append(rightOps()[:7], impl.Op{Kind: 7})...)}, impl.ErrForm},
	{"an op with what it does not need", []impl.Plan{planOf(1, impl.Op{Kind: impl.OpWork, Lock: 1})}, impl.ErrForm},
	{"an op out of its bounds", []impl.Plan{planOf(1, opLock(2))}, impl.ErrRange},
	{"an op out of its bounds in the last one of all", []impl.Plan{planOf(1), planOf(1), planOf(1), planOf(1), planOf(1, opWork(), opSignal(0, 2))}, impl.ErrRange},
	{"an op that is none, ahead of one out of its bounds", []impl.Plan{planOf(1, impl.Op{}, opLock(2))}, impl.ErrForm},
	{"an op out of its bounds, ahead of one that is none", []impl.Plan{planOf(1, opLock(2), impl.Op{})}, impl.ErrRange},
	{"an op that is none, ahead of tickets below", []impl.Plan{planOf(1, impl.Op{}), planOf(0)}, impl.ErrForm},
	{"tickets below, ahead of an op that is none", []impl.Plan{planOf(0), planOf(1, impl.Op{})}, impl.ErrRange},
	{"too many ops, ahead of tickets below", []impl.Plan{planOf(1, slices.Repeat([]impl.Op{opWork()}, 9)...), planOf(0)}, impl.ErrMany},
	{"an op that is none, ahead of too many ops", []impl.Plan{planOf(1, impl.Op{}), planOf(1, slices.Repeat([]impl.Op{opWork()}, 9)...)}, impl.ErrForm},
	{"an op out of its bounds, ahead of too many ops and an op that is none", []impl.Plan{planOf(1, opWait(0, 2)), planOf(1, make([]impl.Op, 9)...), planOf(1, impl.Op{})}, impl.ErrRange},
}

func TestPlansFault(t *testing.T) {
	for _, c := range rightPlans {
		wantCode(t, c.name, impl.PlansFault(c.plans), impl.OK)
	}
	for _, c := range faultyPlans {
		wantCode(t, c.name, impl.PlansFault(c.plans), c.want)
	}
	for _, c := range faultyOps {
		wantCode(t, c.name, impl.PlansFault([]impl.Plan{planOf(1), planOf(1, opWork(), c.o, opWork())}), c.want)
	}
}

var faultySteps = []int64{lowest, lowest + 1, -300, -2, -1, 301, 302, 1 << 32, 1<<32 + 1, highest}

// A fault of the plans is told ahead of how many steps there are.
func TestTheFaultOfPlansIsAskedFirst(t *testing.T) {
	for _, c := range faultyPlans {
		for _, steps := range append([]int64{0, 1, 300}, faultySteps...) {
			wantLib(t, c.name, impl.RunLib(c.plans, steps), libDenied(c.want))
		}
	}
	for _, c := range rightPlans {
		for _, steps := range faultySteps {
			wantLib(t, c.name, impl.RunLib(c.plans, steps), libDenied(impl.ErrRange))
		}
	}
}

// runs are told by the notes of all their steps, and by the library at the end.
type run struct {
	name  string
	plans []impl.Plan
	notes []impl.LibNote
	lib   impl.Lib
}

func checkRuns(t *testing.T, runs []run) {
	t.Helper()
	for _, c := range runs {
		wantLib(t, c.name, impl.RunLib(c.plans, int64(len(c.notes))), impl.LibResult{Notes: c.notes, Lib: c.lib})
	}
}

func TestTheLibraryAtFirst(t *testing.T) {
	checkRuns(t, []run{
		{"one with no ops", []impl.Plan{planOf(1)}, nil, quietLib(schedOf(0, 0, 1, 0), readyAt(1, 0))},
		{"one with ops", []impl.Plan{planOf(10, opLock(0), opWait(0, 0))}, nil, quietLib(schedOf(0, 0, 10, 0), readyAt(10, 0))},
		{"as many as there may be", []impl.Plan{planOf(1), planOf(2, opWork()), planOf(3), planOf(10), planOf(5)}, nil,
			quietLib(schedOf(0, 0, 1, 0, 1, 2, 0, 2, 3, 0, 3, 10, 0, 4, 5, 0),
				readyAt(1, 0), readyAt(2, 0), readyAt(3, 0), readyAt(10, 0), readyAt(5, 0))},
	})
}

func TestWorkAndEnd(t *testing.T) {
	const work, end = impl.OpWork, impl.OpEnd
	checkRuns(t, []run{
		{"no ops", []impl.Plan{planOf(1)}, []impl.LibNote{did(0, end)}, quietLib(schedOf(2520), doneAt(1, 0, 0))},
		{"nobody is there behind the end", []impl.Plan{planOf(1)}, []impl.LibNote{did(0, end), nobodyDid(), nobodyDid()},
			quietLib(schedOf(2520), doneAt(1, 0, 0))},
		{"one op", []impl.Plan{planOf(10, opWork())}, []impl.LibNote{did(0, work)}, quietLib(schedOf(252, 0, 10, 252), readyAt(10, 1))},
		{"one op and its end", []impl.Plan{planOf(10, opWork())}, []impl.LibNote{did(0, work), did(0, end), nobodyDid()},
			quietLib(schedOf(504), doneAt(10, 1, 0))},
		{"as many ops as there may be", []impl.Plan{planOf(10, slices.Repeat([]impl.Op{opWork()}, 8)...)},
			append(slices.Repeat([]impl.LibNote{did(0, work)}, 8), did(0, end)), quietLib(schedOf(2268), doneAt(10, 8, 0))},
		{"two by strides", []impl.Plan{planOf(1, opWork(), opWork()), planOf(2, opWork(), opWork(), opWork())},
			[]impl.LibNote{did(0, work), did(1, work), did(1, work), did(0, work), did(1, work)},
			quietLib(schedOf(3780, 0, 1, 5040, 1, 2, 3780), readyAt(1, 2), readyAt(2, 3))},
		{"the rest of one that ends ahead of others", []impl.Plan{planOf(1), planOf(10, opWork())}, []impl.LibNote{did(0, end), did(1, work)},
			quietLib(schedOf(252, 1, 10, 252), doneAt(1, 0, 2520), readyAt(10, 1))},
		{"five that end", slices.Repeat([]impl.Plan{planOf(1)}, 5),
			[]impl.LibNote{did(0, end), did(1, end), did(2, end), did(3, end), did(4, end), nobodyDid()},
			quietLib(schedOf(2520), doneAt(1, 0, 2520), doneAt(1, 0, 2520), doneAt(1, 0, 2520), doneAt(1, 0, 2520), doneAt(1, 0, 0))},
	})
}

func TestAsManyStepsAsThereMayBe(t *testing.T) {
	notes := append(slices.Repeat([]impl.LibNote{did(0, impl.OpWork)}, 8), did(0, impl.OpEnd))
	notes = append(notes, slices.Repeat([]impl.LibNote{nobodyDid()}, 291)...)
	checkRuns(t, []run{
		{"one", []impl.Plan{planOf(1, slices.Repeat([]impl.Op{opWork()}, 8)...)}, notes, quietLib(schedOf(9*2520), doneAt(1, 8, 0))},
	})
}

func TestWhatIsRefused(t *testing.T) {
	const lock, unlock, wait, work = impl.OpLock, impl.OpUnlock, impl.OpWait, impl.OpWork
	const owner, taken = impl.ErrOwner, impl.ErrTaken
	checkRuns(t, []run{
		{"what nobody owns, and what one owns itself",
			[]impl.Plan{planOf(10, opUnlock(0), opUnlock(1), opWait(0, 0), opWait(1, 1), opLock(0), opLock(0), opWait(1, 0), opUnlock(1))},
			[]impl.LibNote{not(0, unlock, owner), not(0, unlock, owner), not(0, wait, owner), not(0, wait, owner),
				did(0, lock), not(0, lock, taken), not(0, wait, owner), not(0, unlock, owner)},
			libOf(schedOf(8*252, 0, 10, 8*252), bothLocks(lockOf(0), nobodys()), bothConds(nil, nil), readyAt(10, 8))},
		{"what another one owns",
			[]impl.Plan{planOf(1, opLock(1), opWork(), opWork()), planOf(1, opUnlock(1), opWait(1, 0), opWork())},
			[]impl.LibNote{did(0, lock), not(1, unlock, owner), did(0, work), not(1, wait, owner)},
			libOf(schedOf(5040, 0, 1, 5040, 1, 1, 5040), bothLocks(nobodys(), lockOf(0)), bothConds(nil, nil), readyAt(1, 2), readyAt(1, 2))},
		{"one that its owner takes again while another one waits for it",
			[]impl.Plan{planOf(1, opLock(0), opLock(0), opLock(0)), planOf(1, opLock(0))},
			[]impl.LibNote{did(0, lock), did(1, lock), not(0, lock, taken), not(0, lock, taken)},
			libOf(schedOf(7560, 0, 1, 7560), bothLocks(lockOf(0, 1), nobodys()), bothConds(nil, nil), readyAt(1, 3), blockedAt(1, 1, 0, 0))},
		{"one that was passed on, by who passed it on",
			[]impl.Plan{planOf(1, opLock(0), opUnlock(0), opUnlock(0), opWait(0, 1)), planOf(10, opLock(0))},
			[]impl.LibNote{did(0, lock), did(1, lock), did(0, unlock), not(0, unlock, owner)},
			libOf(schedOf(5040, 0, 1, 7560, 1, 10, 5040), bothLocks(lockOf(1), nobodys()), bothConds(nil, nil), readyAt(1, 3), readyAt(10, 1))},
	})
}
