package tests

import (
	"slices"
	"testing"

	"loop.example/g00789/impl"
)

const (
	mostBase = 10000000
	big      = 2520
)

func readyOf(id int64, tickets int64, pass int64) impl.Ready {
	return impl.Ready{Id: id, Tickets: tickets, Pass: pass}
}

// schedOf is told by an Id, Tickets and a Pass each, one behind the other.
func schedOf(base int64, numbers ...int64) impl.Sched {
	s := impl.Sched{Base: base}
	for i := 0; i < len(numbers); i += 3 {
		s.List = append(s.List, readyOf(numbers[i], numbers[i+1], numbers[i+2]))
	}
	return s
}

// allReady are as many as there may be, all of one pass.
func allReady(base int64, tickets int64) impl.Sched {
	return schedOf(base, 0, tickets, base, 1, tickets, base, 2, tickets, base, 3, tickets, base, 4, tickets, base)
}

// twoReady are 0 and 3, of which 0 is the one with the least pass.
func twoReady() impl.Sched {
	return schedOf(100, 0, 2, 100, 3, 1, 350)
}

func sameSched(a impl.Sched, b impl.Sched) bool {
	return a.Base == b.Base && slices.Equal(a.List, b.List)
}

func sameSchedResults(a impl.SchedResult, b impl.SchedResult) bool {
	return a.Code == b.Code && a.Id == b.Id && a.Rest == b.Rest && sameSched(a.Sched, b.Sched)
}

func wantSched(t *testing.T, name string, got impl.SchedResult, want impl.SchedResult) {
	t.Helper()
	if !sameSchedResults(got, want) {
		t.Errorf("%s: %v, want %v", name, got, want)
	}
}

func wantPicks(t *testing.T, name string, got impl.PicksResult, code int64, ids []int64, s impl.Sched) {
	t.Helper()
	if got.Code != code || !slices.Equal(got.Ids, ids) || !sameSched(got.Sched, s) {
		t.Errorf("%s: %v, want %d %v %v", name, got, code, ids, s)
	}
}

// turnedTo and deniedBy are what a call answers that turns a schedule, and one
// that does not.
func turnedTo(s impl.Sched) impl.SchedResult {
	return impl.SchedResult{Sched: s}
}

func deniedBy(code int64) impl.SchedResult {
	return impl.SchedResult{Code: code}
}

func TestNumbersOfSchedules(t *testing.T) {
	numbers := []int64{impl.MaxThreads, impl.MaxTickets, impl.BigStride, impl.MaxBase, impl.MaxPicks}
	if !slices.Equal(numbers, []int64{5, 10, 2520, 10000000, 200}) {
		t.Error("constants", numbers)
	}
}

func TestStrideOf(t *testing.T) {
	for at, want := range []int64{2520, 1260, 840, 630, 504, 420, 360, 315, 280, 252} {
		tickets := int64(at + 1)
		if got := impl.StrideOf(tickets); got != (impl.IntResult{Value: want}) {
			t.Errorf("of %d: %v, want %d", tickets, got, want)
		}
	}
	for _, tickets := range []int64{lowest, lowest + 1, -2520, -10, -1, 0, 11, 12, 2520, 1 << 32, 1<<32 + 1, highest} {
		if got := impl.StrideOf(tickets); got != (impl.IntResult{Code: impl.ErrRange}) {
			t.Errorf("of %d: %v, want ErrRange alone", tickets, got)
		}
	}
}

// faultySchedules have one fault or several, with the code that is asked first.
var faultySchedules = []struct {
	name string
	s    impl.Sched
	want int64
}{
	{"base below", schedOf(-1), impl.ErrRange},
	{"base above", schedOf(mostBase + 1), impl.ErrRange},
	{"the lowest base", schedOf(lowest), impl.ErrRange},
	{"the highest base", schedOf(highest), impl.ErrRange},
	{"base beyond 32 bits", schedOf(1 << 32), impl.ErrRange},
	{"base below, with one that fits to it", schedOf(-1, 0, 1, -1), impl.ErrRange},
	{"base above, with one that fits to it", schedOf(mostBase+1, 0, 1, mostBase+1), impl.ErrRange},
	{"the highest base, with one that fits to it", schedOf(highest, 0, 1, highest), impl.ErrRange},
	{"base below, and too many", schedOf(-1, 0, 1, 0, 1, 1, 0, 2, 1, 0, 3, 1, 0, 4, 1, 0, 5, 1, 0), impl.ErrRange},
	{"too many", schedOf(0, 0, 1, 0, 1, 1, 0, 2, 1, 0, 3, 1, 0, 4, 1, 0, 5, 1, 0), impl.ErrMany},
	{"too many, one of them twice", schedOf(0, 0, 1, 0, 1, 1, 0, 2, 1, 0, 3, 1, 0, 4, 1, 0, 4, 1, 0), impl.ErrMany},
	{"too many that are not so, fall and have no base", schedOf(9, 9, 0, 0, 8, 0, 0, 7, 0, 0, 6, 0, 0, 5, 0, 0, 4, 0, 0), impl.ErrMany},
	{"many more", impl.Sched{List: make([]impl.Ready, 1000)}, impl.ErrMany},
	{"id below", schedOf(0, -1, 1, 0), impl.ErrRange},
	{"id above", schedOf(0, 5, 1, 0), impl.ErrRange},
	{"the lowest id", schedOf(0, lowest, 1, 0), impl.ErrRange},
	{"the highest id", schedOf(0, highest, 1, 0), impl.ErrRange},
	{"id beyond 32 bits", schedOf(0, 1<<32, 1, 0), impl.ErrRange},
	{"tickets below", schedOf(0, 0, 0, 0), impl.ErrRange},
	{"tickets below 0", schedOf(0, 0, -1, 0), impl.ErrRange},
	{"tickets above", schedOf(0, 0, 11, 0), impl.ErrRange},
	{"the lowest tickets", schedOf(0, 0, lowest, 0), impl.ErrRange},
	{"the highest tickets", schedOf(0, 0, highest, 0), impl.ErrRange},
	{"tickets beyond 32 bits", schedOf(0, 0, 1<<32+1, 0), impl.ErrRange},
	{"pass below 0", schedOf(0, 0, 1, -1), impl.ErrRange},
	{"pass below base", schedOf(7, 0, 1, 6), impl.ErrRange},
	{"pass above the stride of one ticket", schedOf(7, 0, 1, 7, 1, 1, 7+2521), impl.ErrRange},
	{"pass above the stride of two", schedOf(7, 0, 1, 7, 1, 2, 7+1261), impl.ErrRange},
	{"pass above the stride of ten", schedOf(7, 0, 1, 7, 1, 10, 7+253), impl.ErrRange},
	{"pass above the stride at the highest base", schedOf(mostBase, 0, 1, mostBase, 1, 8, mostBase+316), impl.ErrRange},
	{"the lowest pass", schedOf(0, 0, 1, lowest), impl.ErrRange},
	{"the highest pass", schedOf(0, 0, 1, highest), impl.ErrRange},
	{"the lowest pass at the highest base", schedOf(mostBase, 0, 1, lowest), impl.ErrRange},
	{"pass beyond 32 bits", schedOf(0, 0, 1, 1<<32), impl.ErrRange},
	{"all of one below", schedOf(0, -1, 0, -1), impl.ErrRange},
	{"all of one above", schedOf(0, 5, 11, 2521), impl.ErrRange},
	{"pass below base in the last one", schedOf(7, 0, 1, 7, 1, 1, 7, 4, 1, 6), impl.ErrRange},
	{"tickets in the last of all", schedOf(0, 0, 1, 0, 1, 1, 0, 2, 1, 0, 3, 1, 0, 4, 11, 0), impl.ErrRange},
	{"id in the first of all", schedOf(0, -1, 1, 0, 1, 1, 0, 2, 1, 0, 3, 1, 0, 4, 1, 0), impl.ErrRange},
	{"not so, behind the same id", schedOf(0, 0, 1, 0, 0, 1, 0, 1, 0, 0), impl.ErrRange},
	{"not so, ahead of such as fall", schedOf(0, 0, 0, 0, 2, 1, 0, 1, 1, 0), impl.ErrRange},
	{"not so, and none at base", schedOf(0, 0, 1, 1, 1, 1, 2521), impl.ErrRange},
	{"the same twice", schedOf(0, 1, 1, 0, 1, 1, 0), impl.ErrForm},
	{"the same id twice", schedOf(0, 1, 1, 0, 1, 2, 5), impl.ErrForm},
	{"falling", schedOf(0, 1, 1, 0, 0, 1, 0), impl.ErrForm},
	{"falling by more than one", schedOf(0, 4, 1, 0, 0, 1, 0), impl.ErrForm},
	{"falling at the end", schedOf(0, 0, 1, 0, 1, 1, 0, 2, 1, 0, 4, 1, 0, 3, 1, 0), impl.ErrForm},
	{"the same at both ends", schedOf(0, 1, 1, 0, 2, 1, 0, 1, 1, 0), impl.ErrForm},
	{"the same id twice, and none at base", schedOf(0, 1, 1, 5, 1, 1, 5), impl.ErrForm},
	{"falling, and none at base", schedOf(7, 1, 1, 8, 0, 1, 9), impl.ErrForm},
	{"one above base", schedOf(0, 0, 1, 1), impl.ErrState},
	{"one above base by its stride", schedOf(5, 0, 10, 257), impl.ErrState},
	{"one above a base that is not 0", schedOf(7, 2, 2, 8), impl.ErrState},
	{"one above the highest base", schedOf(mostBase, 0, 1, mostBase+1), impl.ErrState},
	{"all above base", schedOf(7, 0, 1, 9, 1, 1, 8, 2, 1, 8, 3, 1, 10, 4, 1, 2527), impl.ErrState},
}

func TestSchedFault(t *testing.T) {
	right := []struct {
		name string
		s    impl.Sched
	}{
		{"nil", impl.Sched{}},
		{"empty", impl.Sched{List: []impl.Ready{}}},
		{"empty with a base", schedOf(7)},
		{"empty with the highest base", schedOf(mostBase)},
		{"one of zeros", schedOf(0, 0, 1, 0)},
		{"one with all at its bounds", schedOf(mostBase, 4, 10, mostBase)},
		{"one with the least tickets", schedOf(7, 4, 1, 7)},
		{"one with the most tickets", schedOf(7, 0, 10, 7)},
		{"a stride above base", schedOf(0, 0, 1, 0, 1, 1, 2520)},
		{"strides of all kinds", schedOf(7, 0, 7, 7+360, 1, 8, 7+315, 2, 9, 7+280, 3, 10, 7+252, 4, 4, 7)},
		{"a stride above the highest base", schedOf(mostBase, 0, 1, mostBase+2520, 1, 1, mostBase)},
		{"the first at base", schedOf(7, 0, 1, 7, 1, 1, 8)},
		{"the last at base", schedOf(7, 0, 1, 8, 1, 1, 7)},
		{"one in the middle at base", schedOf(7, 0, 1, 8, 2, 1, 7, 4, 1, 9)},
		{"two at base", schedOf(7, 0, 1, 7, 2, 3, 7)},
		{"as many as there may be", allReady(3, 10)},
		{"as many as there may be, one at base", schedOf(0, 0, 1, 2520, 1, 2, 1260, 2, 3, 840, 3, 4, 0, 4, 5, 504)},
	}
	for _, c := range right {
		wantCode(t, c.name, impl.SchedFault(c.s), impl.OK)
	}
	for _, c := range faultySchedules {
		wantCode(t, c.name, impl.SchedFault(c.s), c.want)
	}
}

// A schedule that has a fault is told ahead of whatever else is wrong.
func TestTheFaultOfASchedIsAskedFirst(t *testing.T) {
	for _, c := range faultySchedules {
		for _, id := range []int64{-1, 0, 1, 4, 5} {
			for _, tickets := range []int64{0, 1, 11} {
				for _, rest := range []int64{-1, 0, highest} {
					wantSched(t, "join of "+c.name, impl.JoinSched(c.s, id, tickets, rest), deniedBy(c.want))
				}
			}
			wantSched(t, "leave of "+c.name, impl.LeaveSched(c.s, id), deniedBy(c.want))
		}
		for _, n := range []int64{-1, 0, 1, 200, 201} {
			wantPicks(t, "picks of "+c.name, impl.PicksOf(c.s, n), c.want, nil, impl.Sched{})
		}
		wantSched(t, "pick of "+c.name, impl.PickSched(c.s), deniedBy(c.want))
		wantSched(t, "rebase of "+c.name, impl.RebaseSched(c.s), deniedBy(c.want))
	}
}

func TestJoinSched(t *testing.T) {
	high := schedOf(mostBase-5, 1, 1, mostBase-5)
	cases := []struct {
		name              string
		s                 impl.Sched
		id, tickets, rest int64
		want              impl.SchedResult
	}{
		{"into nil", impl.Sched{}, 0, 1, 0, turnedTo(schedOf(0, 0, 1, 0))},
		{"into an empty one", impl.Sched{List: []impl.Ready{}}, 4, 10, 0, turnedTo(schedOf(0, 4, 10, 0))},
		{"into an empty one with a rest", impl.Sched{}, 2, 3, 5, turnedTo(schedOf(5, 2, 3, 5))},
		{"into an empty one with a base", schedOf(7), 2, 3, 0, turnedTo(schedOf(7, 2, 3, 7))},
		{"into an empty one with a base and a rest", schedOf(7), 2, 3, 5, turnedTo(schedOf(12, 2, 3, 12))},
		{"into an empty one with a base and a whole stride", schedOf(7), 2, 1, 2520, turnedTo(schedOf(2527, 2, 1, 2527))},
		{"into an empty one at the highest base", schedOf(mostBase), 2, 1, 0, turnedTo(schedOf(mostBase, 2, 1, mostBase))},
		{"into an empty one just up to the highest base", schedOf(mostBase - 2520), 2, 1, 2520, turnedTo(schedOf(mostBase, 2, 1, mostBase))},
		{"into an empty one above the highest base", schedOf(mostBase - 2519), 2, 1, 2520, deniedBy(impl.ErrFull)},
		{"into an empty one above the highest base by one", schedOf(mostBase), 0, 1, 1, deniedBy(impl.ErrFull)},
		{"ahead of one", schedOf(7, 3, 1, 7), 0, 2, 0, turnedTo(schedOf(7, 0, 2, 7, 3, 1, 7))},
		{"behind one", schedOf(7, 3, 1, 7), 4, 2, 0, turnedTo(schedOf(7, 3, 1, 7, 4, 2, 7))},
		{"between two", schedOf(7, 0, 1, 9, 4, 1, 7), 2, 2, 3, turnedTo(schedOf(7, 0, 1, 9, 2, 2, 10, 4, 1, 7))},
		{"the last one that there may be", schedOf(0, 0, 1, 0, 1, 1, 0, 3, 1, 0, 4, 1, 0), 2, 10, 252, turnedTo(schedOf(0, 0, 1, 0, 1, 1, 0, 2, 10, 252, 3, 1, 0, 4, 1, 0))},
		{"with a rest, and base stays", schedOf(7, 3, 1, 7), 0, 2, 100, turnedTo(schedOf(7, 0, 2, 107, 3, 1, 7))},
		{"with a whole stride of one ticket", schedOf(7, 3, 1, 7), 0, 1, 2520, turnedTo(schedOf(7, 0, 1, 2527, 3, 1, 7))},
		{"with a whole stride of seven", schedOf(7, 3, 1, 7), 0, 7, 360, turnedTo(schedOf(7, 0, 7, 367, 3, 1, 7))},
		{"just up to the highest base", high, 0, 1, 5, turnedTo(schedOf(mostBase-5, 0, 1, mostBase, 1, 1, mostBase-5))},
		{"above the highest base", high, 0, 1, 6, deniedBy(impl.ErrFull)},
		{"above the highest base by a stride", high, 0, 1, 2520, deniedBy(impl.ErrFull)},
		{"with no rest where one is above the highest base", schedOf(mostBase, 1, 1, mostBase, 2, 1, mostBase+9), 0, 1, 0, turnedTo(schedOf(mostBase, 0, 1, mostBase, 1, 1, mostBase, 2, 1, mostBase+9))},
		{"id below", twoReady(), -1, 1, 0, deniedBy(impl.ErrRange)},
		{"id above", twoReady(), 5, 1, 0, deniedBy(impl.ErrRange)},
		{"id above, into a full one", allReady(0, 1), 5, 1, 0, deniedBy(impl.ErrRange)},
		{"the lowest id", twoReady(), lowest, 1, 0, deniedBy(impl.ErrRange)},
		{"the highest id", twoReady(), highest, 1, 0, deniedBy(impl.ErrRange)},
		{"id beyond 32 bits", twoReady(), 1<<32 + 1, 1, 0, deniedBy(impl.ErrRange)},
		{"tickets below", twoReady(), 1, 0, 0, deniedBy(impl.ErrRange)},
		{"tickets below 0", twoReady(), 1, -1, 0, deniedBy(impl.ErrRange)},
		{"tickets above", twoReady(), 1, 11, 0, deniedBy(impl.ErrRange)},
		{"the lowest tickets", twoReady(), 1, lowest, 0, deniedBy(impl.ErrRange)},
		{"the highest tickets", twoReady(), 1, highest, 0, deniedBy(impl.ErrRange)},
		{"rest below", twoReady(), 1, 1, -1, deniedBy(impl.ErrRange)},
		{"rest above the stride of one ticket", twoReady(), 1, 1, 2521, deniedBy(impl.ErrRange)},
		{"rest above the stride of three", twoReady(), 1, 3, 841, deniedBy(impl.ErrRange)},
		{"rest above the stride of ten", twoReady(), 1, 10, 253, deniedBy(impl.ErrRange)},
		{"the lowest rest", twoReady(), 1, 1, lowest, deniedBy(impl.ErrRange)},
		{"the highest rest", twoReady(), 1, 1, highest, deniedBy(impl.ErrRange)},
		{"rest beyond 32 bits", twoReady(), 1, 1, 1 << 32, deniedBy(impl.ErrRange)},
		{"all below", twoReady(), -1, -1, -1, deniedBy(impl.ErrRange)},
		{"all above", twoReady(), 5, 11, 2521, deniedBy(impl.ErrRange)},
		{"tickets not so, of one that is there", twoReady(), 0, 0, 0, deniedBy(impl.ErrRange)},
		{"rest not so, of one that is there", twoReady(), 3, 2, 1261, deniedBy(impl.ErrRange)},
		{"rest not so, above the highest base", high, 0, 2, 1261, deniedBy(impl.ErrRange)},
		{"one that is there", twoReady(), 0, 2, 0, deniedBy(impl.ErrTaken)},
		{"one that is there at the end", twoReady(), 3, 5, 100, deniedBy(impl.ErrTaken)},
		{"one that is there alone", schedOf(7, 2, 1, 7), 2, 1, 0, deniedBy(impl.ErrTaken)},
		{"one of all", allReady(0, 1), 2, 1, 0, deniedBy(impl.ErrTaken)},
		{"one that is there, above the highest base", high, 1, 1, 6, deniedBy(impl.ErrTaken)},
	}
	for _, c := range cases {
		wantSched(t, c.name, impl.JoinSched(c.s, c.id, c.tickets, c.rest), c.want)
	}
}

func TestLeaveSched(t *testing.T) {
	left := func(rest int64, s impl.Sched) impl.SchedResult {
		return impl.SchedResult{Rest: rest, Sched: s}
	}
	above := schedOf(mostBase-1, 0, 1, mostBase-1, 1, 1, mostBase+1, 2, 1, mostBase)
	over := schedOf(mostBase, 0, 1, mostBase, 1, 1, mostBase+1)
	cases := []struct {
		name string
		s    impl.Sched
		id   int64
		want impl.SchedResult
	}{
		{"the last one", schedOf(0, 0, 1, 0), 0, left(0, impl.Sched{})},
		{"the last one, and base stays", schedOf(7, 2, 3, 7), 2, left(0, schedOf(7))},
		{"the last one at the highest base", schedOf(mostBase, 4, 10, mostBase), 4, left(0, schedOf(mostBase))},
		{"the least one alone", twoReady(), 0, left(0, schedOf(350, 3, 1, 350))},
		{"the other one", twoReady(), 3, left(250, schedOf(100, 0, 2, 100))},
		{"the least one at the end", schedOf(7, 0, 1, 9, 1, 1, 8, 2, 1, 7), 2, left(0, schedOf(8, 0, 1, 9, 1, 1, 8))},
		{"the least one in the middle", schedOf(7, 0, 1, 9, 1, 1, 7, 2, 1, 8), 1, left(0, schedOf(8, 0, 1, 9, 2, 1, 8))},
		{"the least one with two behind it of one pass", schedOf(7, 0, 1, 7, 1, 1, 8, 2, 1, 8), 0, left(0, schedOf(8, 1, 1, 8, 2, 1, 8))},
		{"one of two least ones", schedOf(7, 0, 1, 7, 1, 1, 9, 2, 1, 7), 0, left(0, schedOf(7, 1, 1, 9, 2, 1, 7))},
		{"the other one of two least ones", schedOf(7, 0, 1, 7, 1, 1, 9, 2, 1, 7), 2, left(0, schedOf(7, 0, 1, 7, 1, 1, 9))},
		{"one that is above both", schedOf(7, 0, 1, 7, 1, 1, 9, 2, 1, 7), 1, left(2, schedOf(7, 0, 1, 7, 2, 1, 7))},
		{"a whole stride above", schedOf(7, 0, 1, 7, 3, 4, 637), 3, left(630, schedOf(7, 0, 1, 7))},
		{"one of all", allReady(3, 2), 2, left(0, schedOf(3, 0, 2, 3, 1, 2, 3, 3, 2, 3, 4, 2, 3))},
		{"base comes just to its bound", above, 0, left(0, schedOf(mostBase, 1, 1, mostBase+1, 2, 1, mostBase))},
		{"from above the highest base", above, 1, left(2, schedOf(mostBase-1, 0, 1, mostBase-1, 2, 1, mostBase))},
		{"base would be above its bound", over, 0, deniedBy(impl.ErrFull)},
		{"base would be far above its bound", schedOf(mostBase, 3, 1, mostBase, 4, 1, mostBase+2520), 3, deniedBy(impl.ErrFull)},
		{"base would not be above its bound", over, 1, left(1, schedOf(mostBase, 0, 1, mostBase))},
		{"base stays at its bound", allReady(mostBase, 5), 4, left(0, schedOf(mostBase, 0, 5, mostBase, 1, 5, mostBase, 2, 5, mostBase, 3, 5, mostBase))},
		{"one that is not there", twoReady(), 1, deniedBy(impl.ErrNone)},
		{"one that is not there, where base would be above its bound", over, 2, deniedBy(impl.ErrNone)},
		{"id below", twoReady(), -1, deniedBy(impl.ErrNone)},
		{"id above", twoReady(), 5, deniedBy(impl.ErrNone)},
		{"id above, of all", allReady(0, 1), 5, deniedBy(impl.ErrNone)},
		{"the lowest id", twoReady(), lowest, deniedBy(impl.ErrNone)},
		{"the highest id", twoReady(), highest, deniedBy(impl.ErrNone)},
		{"id beyond 32 bits", twoReady(), 1<<32 + 3, deniedBy(impl.ErrNone)},
		{"of nil", impl.Sched{}, 0, deniedBy(impl.ErrNone)},
		{"of an empty one with a base", schedOf(7), 0, deniedBy(impl.ErrNone)},
	}
	for _, c := range cases {
		wantSched(t, c.name, impl.LeaveSched(c.s, c.id), c.want)
	}
}

func TestPickSched(t *testing.T) {
	picked := func(id int64, s impl.Sched) impl.SchedResult {
		return impl.SchedResult{Id: id, Sched: s}
	}
	cases := []struct {
		name string
		s    impl.Sched
		want impl.SchedResult
	}{
		{"nil", impl.Sched{}, deniedBy(impl.ErrNone)},
		{"empty", impl.Sched{List: []impl.Ready{}}, deniedBy(impl.ErrNone)},
		{"empty with a base", schedOf(7), deniedBy(impl.ErrNone)},
		{"empty with the highest base", schedOf(mostBase), deniedBy(impl.ErrNone)},
		{"one", schedOf(0, 0, 1, 0), picked(0, schedOf(2520, 0, 1, 2520))},
		{"one with a base", schedOf(7, 4, 10, 7), picked(4, schedOf(259, 4, 10, 259))},
		{"two of one pass", schedOf(0, 1, 2, 0, 2, 1, 0), picked(1, schedOf(0, 1, 2, 1260, 2, 1, 0))},
		{"the first is the least", twoReady(), picked(0, schedOf(350, 0, 2, 1360, 3, 1, 350))},
		{"the last is the least", schedOf(7, 0, 1, 9, 1, 1, 8, 2, 1, 7), picked(2, schedOf(8, 0, 1, 9, 1, 1, 8, 2, 1, 2527))},
		{"the last two are the least", schedOf(7, 0, 1, 9, 1, 1, 7, 2, 1, 7), picked(1, schedOf(7, 0, 1, 9, 1, 1, 2527, 2, 1, 7))},
		{"the first and the last are the least", schedOf(7, 0, 1, 7, 1, 1, 9, 4, 1, 7), picked(0, schedOf(7, 0, 1, 2527, 1, 1, 9, 4, 1, 7))},
		{"the least one stays the least", schedOf(0, 0, 10, 0, 1, 1, 900), picked(0, schedOf(252, 0, 10, 252, 1, 1, 900))},
		{"the least one comes to another one", schedOf(0, 0, 10, 0, 1, 1, 252), picked(0, schedOf(252, 0, 10, 252, 1, 1, 252))},
		{"more tickets do not come ahead", schedOf(5, 0, 1, 5, 1, 10, 5), picked(0, schedOf(5, 0, 1, 2525, 1, 10, 5))},
		{"all of one pass", allReady(0, 3), picked(0, schedOf(0, 0, 3, 840, 1, 3, 0, 2, 3, 0, 3, 3, 0, 4, 3, 0))},
		{"just up to the highest base", schedOf(mostBase-big, 0, 1, mostBase-big), picked(0, schedOf(mostBase, 0, 1, mostBase))},
		{"just up to the highest base by less", schedOf(mostBase-big, 0, 10, mostBase-big), picked(0, schedOf(mostBase-big+252, 0, 10, mostBase-big+252))},
		{"above the highest base", schedOf(mostBase-big+1, 0, 1, mostBase-big+1), deniedBy(impl.ErrFull)},
		{"above the highest base, though its stride is not", schedOf(mostBase-big+1, 0, 10, mostBase-big+1), deniedBy(impl.ErrFull)},
		{"above the highest base, though base would stay", allReady(mostBase-big+1, 1), deniedBy(impl.ErrFull)},
		{"at the highest base", schedOf(mostBase, 0, 1, mostBase), deniedBy(impl.ErrFull)},
	}
	for _, c := range cases {
		wantSched(t, c.name, impl.PickSched(c.s), c.want)
	}
}

func TestPicksOf(t *testing.T) {
	pair := schedOf(0, 0, 2, 0, 1, 1, 0)
	odd := schedOf(0, 1, 7, 0, 3, 8, 0)
	high := schedOf(mostBase-big, 0, 1, mostBase-big, 1, 1, mostBase-big)
	cases := []struct {
		name string
		s    impl.Sched
		n    int64
		code int64
		ids  []int64
		want impl.Sched
	}{
		{"none", pair, 0, impl.OK, nil, pair},
		{"none of nil", impl.Sched{}, 0, impl.OK, nil, impl.Sched{}},
		{"none of an empty one with a base", schedOf(7), 0, impl.OK, nil, schedOf(7)},
		{"none at the highest base", schedOf(mostBase, 2, 3, mostBase), 0, impl.OK, nil, schedOf(mostBase, 2, 3, mostBase)},
		{"one", pair, 1, impl.OK, []int64{0}, schedOf(0, 0, 2, 1260, 1, 1, 0)},
		{"two", pair, 2, impl.OK, []int64{0, 1}, schedOf(1260, 0, 2, 1260, 1, 1, 2520)},
		{"three", pair, 3, impl.OK, []int64{0, 1, 0}, schedOf(2520, 0, 2, 2520, 1, 1, 2520)},
		{"twice as often", pair, 9, impl.OK, []int64{0, 1, 0, 0, 1, 0, 0, 1, 0}, schedOf(3*2520, 0, 2, 3*2520, 1, 1, 3*2520)},
		{"tickets that do not go into each other", odd, 6, impl.OK, []int64{1, 3, 3, 1, 3, 1}, schedOf(945, 1, 7, 1080, 3, 8, 945)},
		{"a rest is picked later", schedOf(0, 0, 1, 500, 2, 10, 0), 3, impl.OK, []int64{2, 2, 0}, schedOf(504, 0, 1, 3020, 2, 10, 504)},
		{"all in turn", allReady(9, 1), 7, impl.OK, []int64{0, 1, 2, 3, 4, 0, 1}, schedOf(2529, 0, 1, 5049, 1, 1, 5049, 2, 1, 2529, 3, 1, 2529, 4, 1, 2529)},
		{"as many as there may be", schedOf(0, 4, 10, 0), 200, impl.OK, slices.Repeat([]int64{4}, 200), schedOf(50400, 4, 10, 50400)},
		{"as many as there may be, from farther on", schedOf(1, 0, 1, 1), 200, impl.OK, slices.Repeat([]int64{0}, 200), schedOf(504001, 0, 1, 504001)},
		{"n below", pair, -1, impl.ErrRange, nil, impl.Sched{}},
		{"n above", pair, 201, impl.ErrRange, nil, impl.Sched{}},
		{"the lowest n", pair, lowest, impl.ErrRange, nil, impl.Sched{}},
		{"the highest n", pair, highest, impl.ErrRange, nil, impl.Sched{}},
		{"n beyond 32 bits", pair, 1<<32 + 3, impl.ErrRange, nil, impl.Sched{}},
		{"n below, of nil", impl.Sched{}, -1, impl.ErrRange, nil, impl.Sched{}},
		{"n above, of nil", impl.Sched{}, 201, impl.ErrRange, nil, impl.Sched{}},
		{"n above, at the highest base", schedOf(mostBase, 2, 3, mostBase), 201, impl.ErrRange, nil, impl.Sched{}},
		{"one of nil", impl.Sched{}, 1, impl.ErrNone, nil, impl.Sched{}},
		{"many of an empty one with a base", schedOf(7), 200, impl.ErrNone, nil, impl.Sched{}},
		{"the last that go just up to the highest base", high, 2, impl.OK, []int64{0, 1}, schedOf(mostBase, 0, 1, mostBase, 1, 1, mostBase)},
		{"one more", high, 3, impl.ErrFull, nil, impl.Sched{}},
		{"one at the highest base", schedOf(mostBase, 2, 3, mostBase), 1, impl.ErrFull, nil, impl.Sched{}},
	}
	for _, c := range cases {
		wantPicks(t, c.name, impl.PicksOf(c.s, c.n), c.code, c.ids, c.want)
	}
}

func TestRebaseSched(t *testing.T) {
	cases := []struct {
		name string
		s    impl.Sched
		want impl.SchedResult
	}{
		{"nil", impl.Sched{}, impl.SchedResult{}},
		{"empty", impl.Sched{List: []impl.Ready{}}, impl.SchedResult{}},
		{"empty with a base", schedOf(7), impl.SchedResult{Rest: 7}},
		{"empty with the highest base", schedOf(mostBase), impl.SchedResult{Rest: mostBase}},
		{"from 0", schedOf(0, 1, 1, 5, 2, 3, 0), impl.SchedResult{Sched: schedOf(0, 1, 1, 5, 2, 3, 0)}},
		{"one", schedOf(7, 2, 3, 7), impl.SchedResult{Rest: 7, Sched: schedOf(0, 2, 3, 0)}},
		{"two", twoReady(), impl.SchedResult{Rest: 100, Sched: schedOf(0, 0, 2, 0, 3, 1, 250)}},
		{"the last at base", schedOf(9, 0, 1, 2529, 1, 1, 9), impl.SchedResult{Rest: 9, Sched: schedOf(0, 0, 1, 2520, 1, 1, 0)}},
		{"the highest base", schedOf(mostBase, 0, 1, mostBase+2520, 1, 1, mostBase), impl.SchedResult{Rest: mostBase, Sched: schedOf(0, 0, 1, 2520, 1, 1, 0)}},
		{"as many as there may be", allReady(3, 4), impl.SchedResult{Rest: 3, Sched: allReady(0, 4)}},
	}
	for _, c := range cases {
		wantSched(t, c.name, impl.RebaseSched(c.s), c.want)
	}
}

func TestSameScheds(t *testing.T) {
	cases := []struct {
		name string
		a, b impl.Sched
		want bool
	}{
		{"nil and nil", impl.Sched{}, impl.Sched{}, true},
		{"nil and empty", impl.Sched{}, impl.Sched{List: []impl.Ready{}}, true},
		{"empty of one base", schedOf(7), schedOf(7), true},
		{"empty of two bases", schedOf(7), schedOf(8), false},
		{"the same", twoReady(), twoReady(), true},
		{"another base", schedOf(1, 0, 1, 5), schedOf(2, 0, 1, 5), false},
		{"another id", schedOf(1, 0, 1, 5), schedOf(1, 1, 1, 5), false},
		{"other tickets", schedOf(1, 0, 1, 5), schedOf(1, 0, 2, 5), false},
		{"another pass", schedOf(1, 0, 1, 5), schedOf(1, 0, 1, 6), false},
		{"another pass at the end", allReady(0, 1), schedOf(0, 0, 1, 0, 1, 1, 0, 2, 1, 0, 3, 1, 0, 4, 1, 1), false},
		{"another id at the end", twoReady(), schedOf(100, 0, 2, 100, 4, 1, 350), false},
		{"one and none", schedOf(0, 0, 1, 0), impl.Sched{}, false},
		{"one of zeros and none", schedOf(0, 0, 0, 0), impl.Sched{}, false},
		{"one more", schedOf(0, 0, 1, 0), schedOf(0, 0, 1, 0, 1, 1, 0), false},
		{"the same in another order", schedOf(0, 0, 1, 0, 1, 1, 0), schedOf(0, 1, 1, 0, 0, 1, 0), false},
		{"the same twice", schedOf(0, 1, 1, 0, 1, 1, 0), schedOf(0, 1, 1, 0, 1, 1, 0), true},
		{"twice and once", schedOf(0, 1, 1, 0, 1, 1, 0), schedOf(0, 1, 1, 0), false},
		{"faults that are the same", schedOf(lowest, highest, lowest, highest), schedOf(lowest, highest, lowest, highest), true},
		{"faults that are not the same", schedOf(lowest, highest, lowest, highest), schedOf(lowest, highest, lowest, lowest), false},
		{"faults of two bases", schedOf(lowest), schedOf(highest), false},
		{"too many that are the same", impl.Sched{List: make([]impl.Ready, 1000)}, impl.Sched{List: make([]impl.Ready, 1000)}, true},
		{"too many, and one more", impl.Sched{List: make([]impl.Ready, 1000)}, impl.Sched{List: make([]impl.Ready, 1001)}, false},
	}
	for _, c := range cases {
		if got, back := impl.SameScheds(c.a, c.b), impl.SameScheds(c.b, c.a); got != c.want || back != c.want {
			t.Errorf("%s: %v and the other way %v, want %v", c.name, got, back, c.want)
		}
	}
}
