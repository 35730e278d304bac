package tests

import (
	"slices"
	"testing"

	"loop.example/g00789/impl"
)

func wantFair(t *testing.T, name string, s impl.Sched, n int64, want bool) {
	t.Helper()
	if got := impl.IsFair(s, n); got != want {
		t.Errorf("%s: %v, %d: %v, want %v", name, s, n, got, want)
	}
}

// oneAhead are one at the base and so many others that are their stride above it.
func oneAhead(first int64, others ...int64) impl.Sched {
	s := schedOf(7, 0, first, 7)
	for at, tickets := range others {
		s.List = append(s.List, readyOf(int64(at+1), tickets, 7+toldStride(tickets)))
	}
	return s
}

// oneBehind are many at the base and one, the last, that is its stride above it.
func oneBehind(last int64, others ...int64) impl.Sched {
	s := schedOf(7)
	for at, tickets := range others {
		s.List = append(s.List, readyOf(int64(at), tickets, 7))
	}
	s.List = append(s.List, readyOf(int64(len(others)), last, 7+toldStride(last)))
	return s
}

func TestIsFair(t *testing.T) {
	wantFair(t, "nobody, who is not picked", impl.Sched{}, 0, true)
	wantFair(t, "nobody at a base", schedOf(mostBase), 0, true)
	wantFair(t, "nobody, who should be picked", impl.Sched{}, 1, false)
	wantFair(t, "nobody, who should be picked often", schedOf(7), 200, false)
	right := []impl.Sched{
		twoReady(), allReady(0, 1), allReady(9, 10), oneAhead(1, 1), oneAhead(10, 1, 1, 1, 1), oneAhead(1, 10, 10, 10, 10), oneAhead(3, 7),
		oneBehind(1, 10, 10, 10, 10), oneBehind(1, 1), oneBehind(10, 1, 1, 1, 1), oneBehind(9, 8, 7),
		schedOf(0, 0, 1, 2520, 1, 2, 1260, 2, 3, 840, 3, 4, 0, 4, 5, 504), schedOf(50, 0, 10, 50, 1, 1, 51), schedOf(50, 2, 7, 53, 4, 9, 50),
	}
	for tickets := int64(1); tickets <= 10; tickets++ {
		for id := range int64(5) {
			right = append(right, schedOf(7, id, tickets, 7))
		}
	}
	for _, s := range right {
		for n := range int64(201) {
			wantFair(t, "right", s, n, true)
		}
		for _, n := range []int64{lowest, -1, 201, 1 << 32, 1<<32 + 1, highest} {
			wantFair(t, "so often", s, n, false)
		}
	}
	for _, c := range faultySchedules {
		for _, n := range pickCounts {
			wantFair(t, c.name, c.s, n, false)
		}
	}
}

// Who cannot be picked so often, since the base would leave its bounds, gets nothing
// that could be fair.
func TestIsFairOfBasesThatAreTooHigh(t *testing.T) {
	for _, c := range []struct {
		s    impl.Sched
		most int64
	}{
		{schedOf(mostBase, 0, 1, mostBase), 0},
		{schedOf(mostBase-big+1, 0, 10, mostBase-big+1), 0},
		{schedOf(mostBase-big, 0, 1, mostBase-big), 1},
		{schedOf(mostBase-2*big, 0, 10, mostBase-2*big), 11},
		{schedOf(mostBase-big, 0, 1, mostBase-big, 1, 1, mostBase-big), 2},
		{schedOf(mostBase-big, 0, 1, mostBase-big, 1, 1, mostBase), 1},
	} {
		for n := range int64(201) {
			wantFair(t, "base", c.s, n, n <= c.most)
		}
	}
}

// The share that may be too much, or too little, by the tickets: there are some that
// come just as far as they may.
func TestSharesThatAreJustFair(t *testing.T) {
	for _, c := range []struct {
		s impl.Sched
		n int64
	}{
		{oneAhead(1, 1), 2},
		{oneAhead(10, 1), 11},
		{oneAhead(1, 1, 1), 2},
		{oneAhead(5, 1, 1), 6},
		{oneAhead(1, 1, 1, 1), 2},
		{oneAhead(10, 1, 1, 1, 1), 11},
		{oneAhead(1, 1, 1, 1, 1), 2},
		{oneBehind(1, 1), 2},
		{oneBehind(1, 10), 11},
		{oneBehind(1, 10, 10), 22},
		{oneBehind(1, 10, 10, 10), 33},
		{oneBehind(1, 10, 10, 10, 10), 44},
		{oneBehind(10, 10, 10, 10, 10), 8},
	} {
		wantFair(t, "just fair", c.s, c.n, true)
		ids := impl.PicksOf(c.s, c.n).Ids
		if !slices.ContainsFunc(c.s.List, func(one impl.Ready) bool {
			far, most := toldGap(c.s, one, ids)
			return far == most
		}) {
			t.Error("not as far as may be", c.s, c.n, ids)
		}
	}
}

func wantServedAndLawful(t *testing.T, name string, plans []impl.Plan, steps int64, want bool) {
	t.Helper()
	if got := impl.IsServed(plans, steps); got != want {
		t.Errorf("%s: %d steps: served %v, want %v", name, steps, got, want)
	}
	if got := impl.IsLawful(plans, steps); got != want {
		t.Errorf("%s: %d steps: lawful %v, want %v", name, steps, got, want)
	}
}

// patient is one that does one thing ahead of four others, and waits then until all
// of them are done, which is as long as anybody may wait.
func patient(tickets int64) []impl.Plan {
	return append([]impl.Plan{planOf(1, opWork())}, slices.Repeat([]impl.Plan{planOf(tickets, slices.Repeat([]impl.Op{opWork()}, 8)...)}, 4)...)
}

// locked come to all that a library may come to: queues, signals, broadcasts, and
// one that is done.
func locked() []impl.Plan {
	return []impl.Plan{
		planOf(5, opLock(0), opWait(0, 0), opUnlock(0), opLock(1), opWait(1, 1)),
		planOf(2, opLock(0), opWait(0, 0), opUnlock(0)),
		planOf(1, opWork(), opLock(0), opBroadcast(0, 0), opUnlock(0), opWork(), opSignal(1, 1)),
		planOf(3, opWork(), opWork(), opLock(0), opUnlock(0)),
		planOf(10),
	}
}

var stuckPlans = []struct {
	name  string
	plans []impl.Plan
}{
	{"one waits for a signal that does not come", []impl.Plan{planOf(1, opLock(0), opWait(0, 0)), workOf(8)}},
	{"each waits for the other one", []impl.Plan{planOf(1, opLock(0), opLock(1)), planOf(1, opLock(1), opLock(0)), workOf(8)}},
	{"all wait for a signal", slices.Repeat([]impl.Plan{planOf(3, opLock(1), opWait(1, 1))}, 5)},
	{"four wait for a lock of one that waits", append([]impl.Plan{planOf(10, opLock(0), opLock(1), opWait(1, 0))}, slices.Repeat([]impl.Plan{planOf(1, opLock(0))}, 4)...)},
	{"one waits for long, and is told at last", []impl.Plan{planOf(1, opLock(0), opWait(0, 0), opWork()), planOf(1, append(slices.Repeat([]impl.Op{opWork()}, 7), opSignal(0, 0))...), workOf(8), workOf(8), workOf(8)}},
	{"one waits for a lock for long, and gets it at last", []impl.Plan{planOf(1, append([]impl.Op{opLock(0)}, slices.Repeat([]impl.Op{opWork()}, 7)...)...), planOf(1, opLock(0), opWork()), workOf(8), workOf(8), workOf(8)}},
	{"who waits as long as one may", patient(10)},
	{"who waits as long as one may, by fewer tickets", patient(9)},
	{"all that there is", locked()},
	{"busy ones", busy()},
	{"all are refused", slices.Repeat([]impl.Plan{planOf(1, opUnlock(0), opWait(1, 1), opUnlock(1))}, 5)},
}

func TestIsServedAndIsLawful(t *testing.T) {
	for _, c := range append(slices.Clone(stuckPlans), rightPlans...) {
		for _, steps := range append(span(0, 60), 89, 90, 91, 299, 300) {
			wantServedAndLawful(t, c.name, c.plans, steps, true)
		}
		for _, steps := range faultySteps {
			wantServedAndLawful(t, c.name, c.plans, steps, false)
		}
	}
	for _, c := range faultyPlans {
		for _, steps := range append([]int64{0, 1, 300}, faultySteps...) {
			wantServedAndLawful(t, c.name, c.plans, steps, false)
		}
	}
}

// These plans come to what they are named for: who is stuck is so for more steps
// than one may wait, and who is patient is picked just in time.
func TestThePlansComeToWhatTheyAreNamedFor(t *testing.T) {
	for _, c := range stuckPlans[:4] {
		last := impl.RunLib(c.plans, 300)
		if behind := impl.RunLib(c.plans, 300-impl.MaxWait); !sameLib(last.Lib, behind.Lib) || last.Notes[299] != nobodyDid() {
			t.Error(c.name, last)
		}
		if !slices.ContainsFunc(last.Lib.Threads, func(one impl.Thread) bool { return one.State == impl.StBlocked || one.State == impl.StWaiting }) {
			t.Error(c.name, "but nobody is stuck", last.Lib)
		}
	}
	for _, tickets := range []int64{9, 10} {
		notes := impl.RunLib(patient(tickets), 38).Notes
		if notes[0] != did(0, impl.OpWork) || notes[37] != did(0, impl.OpEnd) || slices.ContainsFunc(notes[1:37], func(n impl.LibNote) bool { return n.Id == 0 }) {
			t.Error("not patient", notes)
		}
	}
	met := map[int64]bool{}
	for steps := range int64(60) {
		l := impl.RunLib(locked(), steps).Lib
		for _, one := range l.Threads {
			met[one.State] = true
		}
		met[10] = met[10] || len(l.Locks[0].Queue) > 1
		met[11] = met[11] || len(l.Conds[0]) > 1
		met[12] = met[12] || len(l.Conds[1]) > 0
	}
	if len(met) != 7 || !met[10] || !met[11] || !met[12] {
		t.Error("not all that there is", met)
	}
}
