package tests

import (
	"slices"
	"testing"

	"loop.example/g00789/impl"
)

func wantInt(t *testing.T, name string, got impl.IntResult, code int64, value int64) {
	t.Helper()
	if got != (impl.IntResult{Code: code, Value: value}) {
		t.Errorf("%s: %v, want {%d %d}", name, got, code, value)
	}
}

func wantStack(t *testing.T, name string, got impl.StackResult, want impl.StackResult) {
	t.Helper()
	if !sameStacks(got, want) {
		t.Errorf("%s:\n got %v\nwant %v", name, got, want)
	}
}

func TestNumbersOfStacks(t *testing.T) {
	if impl.Honest != 0 {
		t.Error("honest", impl.Honest)
	}
}

func TestWhoActs(t *testing.T) {
	owners := []int64{0, 1, impl.Free}
	at := func(tick int64, run int64) impl.Kernel { return kernelOf(tick, run, owners, 0, 1, 2) }
	owing := func(tick int64, run int64, env int64, debt int64) impl.Kernel {
		return withAccount(at(tick, run), env, accountOf(0, 0, 0, debt))
	}
	cases := []struct {
		name string
		k    impl.Kernel
		want int64
	}{
		{"nobody of a new one", impl.NewKernel(1).Kernel, nobody},
		{"nobody at a slot that is free", at(18, nobody), nobody},
		{"nobody at a slot that is free, in the next round", at(45, nobody), nobody},
		{"the owner of the first slot", at(0, nobody), 0},
		{"the owner of the second slot", at(9, nobody), 1},
		{"the owner of the first slot, in the next round", at(27, nobody), 0},
		{"the owner of the second slot, in the next round", at(36, nobody), 1},
		{"the owner of the only slot", kernelOf(90, nobody, []int64{3}, 3), 3},
		{"the owner of the last slot", kernelOf(99, nobody, append(repeat(impl.Free, 11), 2), 2), 2},
		{"the owner of the slot at the last tick at which a window begins", kernelOf(99999, nobody, []int64{2}, 2), 2},
		{"nobody, since the owner owes 1", owing(0, nobody, 0, 1), nobody},
		{"nobody, since the owner owes 2", owing(0, nobody, 0, 2), nobody},
		{"nobody, since the owner owes 3", owing(27, nobody, 0, 3), nobody},
		{"nobody, since the second owner owes 1", owing(9, nobody, 1, 1), nobody},
		{"the owner, while another one owes", owing(0, nobody, 1, 3), 0},
		{"the second owner, while another one owes", owing(9, nobody, 0, 3), 1},
		{"the owner, all of whose counters are full", withAccount(at(0, nobody), 0, accountOf(most, most, most, 0)), 0},
		{"nobody at the phase 1", at(1, nobody), nobody},
		{"nobody at the last phase", at(8, nobody), nobody},
		{"the owner at the phase 1", at(1, 0), 0},
		{"the owner at the phase 5", at(5, 0), 0},
		{"the owner at the phase 6", at(6, 0), 0},
		{"the owner at the last phase", at(8, 0), 0},
		{"who runs, and is not the owner", at(4, 1), 1},
		{"who runs, and owns nothing", at(4, 2), 2},
		{"who runs at a slot that is free", at(19, 2), 2},
		{"who runs, and owes", owing(3, 0, 0, 3), 0},
		{"who runs, while the owner owes", owing(3, 1, 0, 3), 1},
		{"who runs at the last tick", at(100000, 1), 1},
		{"nobody at the last tick", at(100000, nobody), nobody},
	}
	for _, c := range cases {
		wantInt(t, c.name, impl.WhoActs(c.k), impl.OK, c.want)
	}
}

// At all phases but the first it is who runs, and the owner means nothing.
func TestWhoActsAtEachPhase(t *testing.T) {
	for phase := int64(1); phase < 9; phase++ {
		for run := int64(nobody); run < 4; run++ {
			for owner := int64(impl.Free); owner < 4; owner++ {
				k := kernelOf(63+phase, run, []int64{owner}, 0, 1, 2, 3)
				wantInt(t, "who runs", impl.WhoActs(k), impl.OK, run)
			}
		}
	}
}

// anyLibs are such as HonestAct may be asked of, with faults and without: only who
// is in the schedule counts.
var anyLibs = []struct {
	name string
	l    impl.Lib
	some bool
}{
	{"zero", impl.Lib{}, false},
	{"an empty list", impl.Lib{Sched: impl.Sched{List: []impl.Ready{}}}, false},
	{"nobody, with a base that is none", impl.Lib{Sched: impl.Sched{Base: lowest}}, false},
	{"nobody, while a thread says it is ready", quietLib(schedOf(9), readyAt(1, 0)), false},
	{"nobody, while one waits for a lock", libOf(schedOf(5), bothLocks(lockOf(0, 1), nobodys()), bothConds(nil, nil), doneAt(1, 0, 0), blockedAt(1, 1, 0, 0)), false},
	{"nobody, while one waits for a signal", libOf(schedOf(5), bothLocks(nobodys(), nobodys()), bothConds([]int64{0}, nil), waitingAt(1, 2, 0, 0)), false},
	{"all are done", quietLib(schedOf(2520), doneAt(1, 0, 0)), false},
	{"one", quietLib(schedOf(0, 0, 1, 0), readyAt(1, 0)), true},
	{"one in a schedule alone", impl.Lib{Sched: schedOf(0, 4, 10, 0)}, true},
	{"one, while its thread says it is done", quietLib(schedOf(0, 0, 1, 0), doneAt(1, 0, 0)), true},
	{"one, and others are not there", fullLib(), true},
	{"as many as there may be", impl.Lib{Sched: allReady(0, 1)}, true},
	{"more than there may be", impl.Lib{Sched: impl.Sched{List: make([]impl.Ready, 1000)}}, true},
	{"one that is none", impl.Lib{Sched: schedOf(highest, -1, lowest, highest)}, true},
}

func TestHonestAct(t *testing.T) {
	for _, c := range anyLibs {
		for phase := range int64(9) {
			for _, start := range []int64{0, 9, 63, 99990} {
				want := int64(impl.ActReturn)
				if phase <= 5 && c.some {
					want = impl.ActWork
				}
				for _, owner := range []int64{impl.Free, 0, 1} {
					k := kernelOf(start+phase, nobody, []int64{owner}, 0, 1)
					wantInt(t, c.name, impl.HonestAct(k, c.l), impl.OK, want)
					for run := int64(0); run < 2 && phase > 0; run++ {
						k.Run = run
						wantInt(t, c.name, impl.HonestAct(k, c.l), impl.OK, want)
					}
				}
			}
		}
	}
}

// A debt and full counters, whose ever they are, mean nothing for what is done.
func TestHonestActOfAnyAccount(t *testing.T) {
	some, none := quietLib(schedOf(0, 0, 1, 0), readyAt(1, 0)), impl.Lib{}
	for _, a := range []impl.Account{accountOf(0, 0, 0, 3), accountOf(most, most, most, 3), accountOf(most, 0, 0, 0)} {
		for env := range int64(2) {
			for phase := range int64(9) {
				k := withAccount(kernelOf(phase, nobody, []int64{0}, 0, 1), env, a)
				want := int64(impl.ActWork)
				if phase >= 6 {
					want = impl.ActReturn
				}
				wantInt(t, "some", impl.HonestAct(k, some), impl.OK, want)
				wantInt(t, "none", impl.HonestAct(k, none), impl.OK, impl.ActReturn)
			}
		}
	}
	last := kernelOf(100000, 0, []int64{0}, 0)
	wantInt(t, "at the last tick", impl.HonestAct(last, some), impl.OK, impl.ActWork)
}

// The fault of a kernel is told by both, whatever the library is.
func TestWhoActsAndWhatIsDoneAskTheKernel(t *testing.T) {
	for _, c := range turnedKernels {
		if c.want == impl.OK {
			continue
		}
		k := sound()
		c.turn(&k)
		wantInt(t, c.name, impl.WhoActs(k), c.want, 0)
		for _, of := range anyLibs {
			wantInt(t, c.name+" with "+of.name, impl.HonestAct(k, of.l), c.want, 0)
		}
	}
	wantInt(t, "zero", impl.WhoActs(impl.Kernel{}), impl.ErrMany, 0)
	wantInt(t, "zero", impl.HonestAct(impl.Kernel{}, impl.Lib{}), impl.ErrMany, 0)
}

func workOf(ops int) impl.Plan {
	return planOf(1, slices.Repeat([]impl.Op{opWork()}, ops)...)
}

// busy are plans that do not come to an end within any window of these tests.
func busy() []impl.Plan {
	return slices.Repeat([]impl.Plan{workOf(8)}, 5)
}

func wantDenied(t *testing.T, name string, slots int64, plans []impl.Plan, events []impl.Event, code int64) {
	t.Helper()
	wantStack(t, name, impl.RunStack(slots, plans, events), stackDenied(code))
	wantInt(t, name, impl.PicksIn(slots, plans, events), code, 0)
	if impl.IsHonest(slots, plans, events) {
		t.Error(name, "is honest")
	}
}

var faultySlots = []int64{lowest, lowest + 1, -1 << 32, -2, -1, 0, 13, 14, 1 << 32, 1<<32 + 1, highest}

// The slots come first, then the plans, then how many events there are; what
// stands in the events is asked by none of these.
func TestWhichFaultOfAStackComesFirst(t *testing.T) {
	works := slices.Repeat([]impl.Event{tickOf(impl.ActWork, 0)}, 401)
	rows := [][]impl.Event{nil, {}, works[:1], works[:400], make([]impl.Event, 400)}
	tooMany := [][]impl.Event{works, make([]impl.Event, 401), make([]impl.Event, 5000)}
	for _, slots := range faultySlots {
		for _, events := range append(rows, tooMany...) {
			wantDenied(t, "slots", slots, busy(), events, impl.ErrMany)
			for _, c := range faultyPlans {
				wantDenied(t, "slots, and "+c.name, slots, c.plans, events, impl.ErrMany)
			}
		}
	}
	for slots := int64(1); slots <= 12; slots++ {
		for _, c := range faultyPlans {
			for _, events := range append(rows, tooMany...) {
				wantDenied(t, c.name, slots, c.plans, events, c.want)
			}
		}
		for _, events := range tooMany {
			wantDenied(t, "too many events", slots, busy(), events, impl.ErrMany)
		}
	}
}

func TestAStackOfNoEvents(t *testing.T) {
	for slots := int64(1); slots <= 12; slots++ {
		for _, c := range rightPlans {
			for _, events := range [][]impl.Event{nil, {}} {
				want := impl.StackResult{Kernel: impl.NewKernel(slots).Kernel, Lib: impl.RunLib(c.plans, 0).Lib}
				wantStack(t, c.name, impl.RunStack(slots, c.plans, events), want)
				wantInt(t, c.name, impl.PicksIn(slots, c.plans, events), impl.OK, 0)
				if !impl.IsHonest(slots, c.plans, events) {
					t.Error(c.name, "is not honest")
				}
			}
		}
	}
}

func TestTheMostEventsOfAStack(t *testing.T) {
	start := []impl.Event{callOf(impl.CallCreate, 0, 0, 0), callOf(impl.CallTake, 0, 0, 0)}
	events := append(start, slices.Repeat([]impl.Event{tickOf(impl.ActYield, 3)}, 398)...)
	r := impl.RunStack(1, busy(), events)
	// Five threads do nine things each, and from then on each window is given back at once.
	if r.Code != impl.OK || len(r.Codes) != 400 || len(r.LibNotes) != 45 || r.Kernel.Tick != 398 || r.Kernel.Accounts[0] != accountOf(45, 0, 0, 0) ||
		len(r.Notes) != 2*45 || r.Notes[89] != noteOf(396, 0, impl.NoteReturn) || !sameLib(r.Lib, impl.RunLib(busy(), 45).Lib) {
		t.Error("the most events", r)
	}
	wantInt(t, "the most events", impl.PicksIn(1, busy(), events), impl.OK, 45)
	if !impl.IsHonest(1, busy(), events) {
		t.Error("the most events are not honest")
	}
	none := impl.RunStack(1, busy(), make([]impl.Event, 400))
	wantStack(t, "the most events that are none", none, impl.StackResult{
		Kernel: impl.NewKernel(1).Kernel, Codes: repeat(impl.ErrForm, 400), Lib: impl.RunLib(busy(), 0).Lib,
	})
	wantInt(t, "the most events that are none", impl.PicksIn(1, busy(), make([]impl.Event, 400)), impl.OK, 0)
}
