package tests

import (
	"slices"
	"testing"

	"loop.example/g00789/impl"
)

var markedReady = readyOf(mark, mark, mark)

// toldStride and those below are what the document says of schedules, read word
// for word and apart from the program.
func toldStride(tickets int64) int64 {
	return []int64{0, 2520, 1260, 840, 630, 504, 420, 360, 315, 280, 252}[tickets]
}

func toldIsRest(rest int64, tickets int64) bool {
	return among(tickets, 1, 10) && among(rest, 0, toldStride(tickets))
}

func toldIsReady(one impl.Ready, base int64) bool {
	return among(one.Id, 0, 4) && among(one.Tickets, 1, 10) && among(one.Pass, base, base+toldStride(one.Tickets))
}

func toldSchedFault(s impl.Sched) int64 {
	if !among(s.Base, 0, 10000000) {
		return impl.ErrRange
	}
	if len(s.List) > 5 {
		return impl.ErrMany
	}
	var ids, passes []int64
	for _, one := range s.List {
		if !toldIsReady(one, s.Base) {
			return impl.ErrRange
		}
		ids, passes = append(ids, one.Id), append(passes, one.Pass)
	}
	if !slices.IsSorted(ids) || toldHasTwice(ids) {
		return impl.ErrForm
	}
	if len(passes) > 0 && !slices.Contains(passes, s.Base) {
		return impl.ErrState
	}
	return impl.OK
}

// toldPlace is where one with this id is, or -1.
func toldPlace(s impl.Sched, id int64) int {
	return slices.IndexFunc(s.List, func(one impl.Ready) bool { return one.Id == id })
}

// toldLeast is the least pass; it is asked only where there is one.
func toldLeast(s impl.Sched) int64 {
	return slices.MinFunc(s.List, func(a, b impl.Ready) int { return int(a.Pass - b.Pass) }).Pass
}

func toldJoin(s impl.Sched, id int64, tickets int64, rest int64) impl.SchedResult {
	code := toldSchedFault(s)
	switch {
	case code != impl.OK:
	case !among(id, 0, 4) || !toldIsRest(rest, tickets):
		code = impl.ErrRange
	case toldPlace(s, id) >= 0:
		code = impl.ErrTaken
	case s.Base+rest > 10000000:
		code = impl.ErrFull
	}
	if code != impl.OK {
		return impl.SchedResult{Code: code}
	}
	pass, base := s.Base+rest, s.Base
	if len(s.List) == 0 {
		base = pass
	}
	at := 0
	for at < len(s.List) && s.List[at].Id < id {
		at++
	}
	return turnedTo(impl.Sched{Base: base, List: slices.Insert(slices.Clone(s.List), at, readyOf(id, tickets, pass))})
}

func toldLeave(s impl.Sched, id int64) impl.SchedResult {
	if code := toldSchedFault(s); code != impl.OK {
		return impl.SchedResult{Code: code}
	}
	at := toldPlace(s, id)
	if at < 0 {
		return impl.SchedResult{Code: impl.ErrNone}
	}
	left := impl.Sched{Base: s.Base, List: slices.Delete(slices.Clone(s.List), at, at+1)}
	if len(left.List) > 0 {
		left.Base = toldLeast(left)
	}
	if left.Base > 10000000 {
		return impl.SchedResult{Code: impl.ErrFull}
	}
	return impl.SchedResult{Rest: s.List[at].Pass - s.Base, Sched: left}
}

func toldPick(s impl.Sched) impl.SchedResult {
	code := toldSchedFault(s)
	switch {
	case code != impl.OK:
	case len(s.List) == 0:
		code = impl.ErrNone
	case s.Base+2520 > 10000000:
		code = impl.ErrFull
	}
	if code != impl.OK {
		return impl.SchedResult{Code: code}
	}
	turned := impl.Sched{List: slices.Clone(s.List)}
	at := slices.IndexFunc(turned.List, func(one impl.Ready) bool { return one.Pass == s.Base })
	turned.List[at].Pass += toldStride(turned.List[at].Tickets)
	turned.Base = toldLeast(turned)
	return impl.SchedResult{Id: turned.List[at].Id, Sched: turned}
}

func toldPicks(s impl.Sched, n int64) impl.PicksResult {
	code := toldSchedFault(s)
	if code == impl.OK && !among(n, 0, 200) {
		code = impl.ErrRange
	}
	var ids []int64
	for at := int64(0); code == impl.OK && at < n; at++ {
		r := toldPick(s)
		ids, s, code = append(ids, r.Id), r.Sched, r.Code
	}
	if code != impl.OK {
		return impl.PicksResult{Code: code}
	}
	return impl.PicksResult{Ids: ids, Sched: s}
}

func toldRebase(s impl.Sched) impl.SchedResult {
	if code := toldSchedFault(s); code != impl.OK {
		return impl.SchedResult{Code: code}
	}
	list := slices.Clone(s.List)
	for at := range list {
		list[at].Pass -= s.Base
	}
	return impl.SchedResult{Rest: s.Base, Sched: impl.Sched{List: list}}
}

func samePicks(a impl.PicksResult, b impl.PicksResult) bool {
	return a.Code == b.Code && slices.Equal(a.Ids, b.Ids) && sameSched(a.Sched, b.Sched)
}

// checkSchedAsk asks twice, of memory that would show a change, and holds the
// answers against what the document tells. What is no row of picks has no Ids,
// so that one kind of answer is enough for all calls.
func checkSchedAsk(t *testing.T, name string, s impl.Sched, ask func(s impl.Sched) (impl.SchedResult, []int64), want impl.SchedResult, ids []int64) {
	t.Helper()
	whole, part := spareOf(s.List, markedReady)
	before := slices.Clone(whole)
	first, firstIds := ask(impl.Sched{Base: s.Base, List: part})
	second, secondIds := ask(impl.Sched{Base: s.Base, List: part})
	if !sameSchedResults(first, want) || !slices.Equal(firstIds, ids) {
		t.Fatalf("%s of %v: %v %v, want %v %v", name, s, first, firstIds, want, ids)
	}
	scribbleOf(first.Sched.List, markedReady)
	scribble(firstIds)
	if !slices.Equal(whole, before) {
		t.Fatalf("%s of %v: the argument was turned or is shared: %v", name, s, whole)
	}
	scribbleOf(whole, markedReady)
	if !sameSchedResults(second, want) || !slices.Equal(secondIds, ids) {
		t.Fatalf("%s of %v: another answer, or a shared one: %v %v, want %v %v", name, s, second, secondIds, want, ids)
	}
}

// joining is what is told to JoinSched beside a schedule.
type joining struct {
	id, tickets, rest int64
}

func withoutIds(turn func(s impl.Sched) impl.SchedResult) func(s impl.Sched) (impl.SchedResult, []int64) {
	return func(s impl.Sched) (impl.SchedResult, []int64) { return turn(s), nil }
}

func checkSched(t *testing.T, s impl.Sched, joins []joining, ids []int64, counts []int64) {
	t.Helper()
	fault := withoutIds(func(s impl.Sched) impl.SchedResult { return deniedBy(impl.SchedFault(s)) })
	checkSchedAsk(t, "fault", s, fault, deniedBy(toldSchedFault(s)), nil)
	checkSchedAsk(t, "pick", s, withoutIds(impl.PickSched), toldPick(s), nil)
	checkSchedAsk(t, "rebase", s, withoutIds(impl.RebaseSched), toldRebase(s), nil)
	for _, j := range joins {
		join := withoutIds(func(s impl.Sched) impl.SchedResult { return impl.JoinSched(s, j.id, j.tickets, j.rest) })
		checkSchedAsk(t, "join", s, join, toldJoin(s, j.id, j.tickets, j.rest), nil)
	}
	for _, id := range ids {
		leave := withoutIds(func(s impl.Sched) impl.SchedResult { return impl.LeaveSched(s, id) })
		checkSchedAsk(t, "leave", s, leave, toldLeave(s, id), nil)
	}
	for _, n := range counts {
		picks := func(s impl.Sched) (impl.SchedResult, []int64) {
			r := impl.PicksOf(s, n)
			return impl.SchedResult{Code: r.Code, Sched: r.Sched}, r.Ids
		}
		want := toldPicks(s, n)
		checkSchedAsk(t, "picks", s, picks, impl.SchedResult{Code: want.Code, Sched: want.Sched}, want.Ids)
	}
}

// eachReady calls see with every list of so many of those that are ready.
func eachReady(size int, of []impl.Ready, see func(list []impl.Ready)) {
	var places []int64
	for place := range of {
		places = append(places, int64(place))
	}
	eachList(size, places, func(chosen []int64) {
		var list []impl.Ready
		for _, place := range chosen {
			list = append(list, of[place])
		}
		see(list)
	})
}

func eachJoining(ids []int64, tickets []int64, rests []int64, see func(j joining)) {
	for _, id := range ids {
		for _, number := range tickets {
			for _, rest := range rests {
				see(joining{id, number, rest})
			}
		}
	}
}

var (
	threadIds  = []int64{lowest, -1, 0, 1, 2, 3, 4, 5, highest}
	pickCounts = []int64{lowest, -1, 0, 1, 2, 7, 200, 201, highest}
)

// Promise 1: every short list, of threads on both sides of each bound, at bases
// on both sides of each bound.
func TestEveryCallOnShortSchedules(t *testing.T) {
	var joins []joining
	eachJoining([]int64{-1, 0, 1, 4, 5}, []int64{0, 1, 10, 11}, []int64{-1, 0, 1, 252, 253, 2520, 2521}, func(j joining) {
		joins = append(joins, j)
	})
	for _, base := range []int64{lowest, -1, 0, 7, mostBase - big, mostBase - big + 1, mostBase - 252, mostBase, mostBase + 1, highest} {
		low := max(min(base, mostBase+1), -1)
		of := schedOf(0, 0, 1, low, 1, 1, low, 1, 10, low+252, 3, 10, low+253, 4, 10, low, 4, 1, low+2520,
			4, 1, low+2521, 4, 2, low-1, -1, 1, low, 5, 1, low, 0, 0, low, 0, 11, low, lowest, highest, lowest).List
		for size := 0; size <= 2; size++ {
			eachReady(size, of, func(list []impl.Ready) {
				checkSched(t, impl.Sched{Base: base, List: list}, joins, threadIds, []int64{-1, 0, 1, 3, 201})
			})
		}
	}
}

// Promise 1: every list of three to six that are right by themselves, and so
// rise or do not, and stand at the base or not.
func TestEveryCallOnSchedulesWithoutRangeFaults(t *testing.T) {
	of := schedOf(0, 0, 1, 7, 1, 2, 7, 2, 3, 7, 0, 2, 8, 2, 3, 8).List
	joins := []joining{{1, 1, 0}, {3, 7, 360}, {4, 10, 253}}
	for size := 3; size <= 6; size++ {
		eachReady(size, of, func(list []impl.Ready) {
			checkSched(t, impl.Sched{Base: 7, List: list}, joins, []int64{0, 1, 2, 3}, []int64{1, 4})
		})
	}
}

// chanceSched is right: so many threads, of which one at least is at the base.
func chanceSched(chance *steps, size int) impl.Sched {
	s := impl.Sched{Base: []int64{0, 1, 5000, mostBase / 2, mostBase - 2*big, mostBase - big, mostBase - 1, mostBase}[chance.below(8)]}
	ids := []int64{0, 1, 2, 3, 4}
	for len(ids) > size {
		at := int(chance.below(int64(len(ids))))
		ids = slices.Delete(ids, at, at+1)
	}
	for _, id := range ids {
		tickets := 1 + chance.below(10)
		rest := []int64{0, 1, toldStride(tickets), chance.below(toldStride(tickets) + 1)}[chance.below(4)]
		s.List = append(s.List, readyOf(id, tickets, s.Base+rest))
	}
	if size > 0 {
		s.List[chance.below(int64(size))].Pass = s.Base
	}
	return s
}

// spoiledSched has one field turned, or two threads that have changed places, or
// one more.
func spoiledSched(chance *steps, s impl.Sched) impl.Sched {
	s.List = slices.Clone(s.List)
	if len(s.List) == 0 {
		s.Base = []int64{lowest, -1, mostBase + 1, highest}[chance.below(4)]
		return s
	}
	at, other := chance.below(int64(len(s.List))), chance.below(int64(len(s.List)))
	switch chance.below(7) {
	case 0:
		s.Base = []int64{lowest, -1, 0, s.Base - 1, s.Base + 1, mostBase, mostBase + 1, highest}[chance.below(8)]
	case 1:
		s.List[at].Id = []int64{lowest, -1, 0, 4, 5, highest}[chance.below(6)]
	case 2:
		s.List[at].Tickets = []int64{lowest, 0, 1, 10, 11, highest}[chance.below(6)]
	case 3:
		s.List[at].Pass = []int64{lowest, s.Base - 1, s.Base, s.Base + 1, s.Base + 2521, highest}[chance.below(6)]
	case 4:
		s.List[at].Id = s.List[other].Id
	case 5:
		s.List[at], s.List[other] = s.List[other], s.List[at]
	case 6:
		s.List = append(s.List, s.List[at])
	}
	return s
}

// Promise 1: schedules of every size up to as many as there may be, right ones
// and such as are right but for one or two faults.
func TestEveryCallOnManySchedules(t *testing.T) {
	var chance steps
	for round := range 6000 {
		s := chanceSched(&chance, round%6)
		for range chance.below(3) {
			s = spoiledSched(&chance, s)
		}
		var joins []joining
		for range 8 {
			tickets := 1 + chance.below(10)
			joins = append(joins, joining{chance.below(6), tickets, []int64{-1, 0, toldStride(tickets), toldStride(tickets) + 1, mostBase - s.Base, mostBase - s.Base + 1}[chance.below(6)]})
		}
		checkSched(t, s, joins, threadIds, []int64{0, 1, 2, chance.below(200), 200, pickCounts[chance.below(int64(len(pickCounts)))]})
	}
}

// Promise 1: schedules are the same when both fields are, whatever stands there;
// to be asked turns neither.
func TestEveryTwoSchedulesAreCompared(t *testing.T) {
	var all []impl.Sched
	of := schedOf(0, 0, 1, 0, 0, 1, 1, 0, 2, 0, 1, 1, 0, lowest, highest, -1).List
	for _, base := range []int64{lowest, 0, 1} {
		for size := 0; size <= 2; size++ {
			eachReady(size, of, func(list []impl.Ready) {
				all = append(all, impl.Sched{Base: base, List: list})
			})
		}
	}
	for _, a := range all {
		for _, b := range all {
			wholeA, partA := spareOf(a.List, markedReady)
			wholeB, partB := spareOf(b.List, markedReady)
			got := impl.SameScheds(impl.Sched{Base: a.Base, List: partA}, impl.Sched{Base: b.Base, List: partB})
			if got != sameSched(a, b) {
				t.Fatal(a, b, got)
			}
			if !slices.Equal(wholeA[:len(a.List)], a.List) || !slices.Equal(wholeB[:len(b.List)], b.List) || wholeA[len(a.List)] != markedReady || wholeB[len(b.List)] != markedReady {
				t.Fatal("an argument was turned", a, b)
			}
		}
	}
}

// eachRightSched calls see with many schedules that have no fault.
func eachRightSched(rounds int, see func(s impl.Sched)) {
	var chance steps
	for round := range rounds {
		see(chanceSched(&chance, round%6))
	}
	for _, s := range []impl.Sched{{}, schedOf(7), schedOf(mostBase), twoReady(), allReady(0, 1), allReady(9, 7), allReady(mostBase, 10), schedOf(0, 0, 1, 2520, 1, 2, 1260, 2, 3, 840, 3, 4, 0, 4, 5, 504)} {
		see(s)
	}
}

// isLeastAlone says whether all the others have more, and there are others.
func isLeastAlone(s impl.Sched, at int) bool {
	others := 0
	for place, one := range s.List {
		if place != at && one.Pass > s.List[at].Pass {
			others++
		}
	}
	return others > 0 && others == len(s.List)-1
}

// Promise 6: who leaves and comes back at once is as far above the base as it
// was, and all the others stand where they stood. The whole schedule is as it
// was, but where the one that left had the least pass alone: then the base has
// gone up to the others by then, and it comes back to them.
func TestWhoLeavesComesBackToWhereItWas(t *testing.T) {
	eachRightSched(6000, func(s impl.Sched) {
		for at, one := range s.List {
			left := impl.LeaveSched(s, one.Id)
			if left.Code != impl.OK {
				continue
			}
			wantLeft(t, s, at, left)
			back := impl.JoinSched(left.Sched, one.Id, one.Tickets, left.Rest)
			if left.Sched.Base+left.Rest > mostBase {
				wantSched(t, "too far", back, deniedBy(impl.ErrFull))
				continue
			}
			if back.Code != impl.OK || back.Sched.List[at].Pass-back.Sched.Base != one.Pass-s.Base {
				t.Fatal("back", s, one, left, back)
			}
			if isLeastAlone(s, at) {
				want := impl.Sched{Base: left.Sched.Base, List: slices.Clone(s.List)}
				want.List[at].Pass = left.Sched.Base
				wantSched(t, "back behind the least pass", back, turnedTo(want))
				continue
			}
			if !impl.SameScheds(back.Sched, s) {
				t.Fatal("not where it was", s, one, left, back)
			}
		}
	})
}

// wantLeft wants the others to be where they were, and a base that went up only
// where nobody else is at it.
func wantLeft(t *testing.T, s impl.Sched, at int, left impl.SchedResult) {
	t.Helper()
	others := slices.Delete(slices.Clone(s.List), at, at+1)
	if !slices.Equal(left.Sched.List, others) || impl.SchedFault(left.Sched) != impl.OK {
		t.Fatal("left", s, at, left)
	}
	if left.Sched.Base < s.Base || (left.Sched.Base > s.Base) != isLeastAlone(s, at) {
		t.Fatal("base of who is left", s, at, left)
	}
}

// Promise 6: all of them leave, one behind the other, and come back the other
// way round; that is where they were, since nobody who is least alone leaves
// ahead of the others.
func TestAllLeaveAndComeBack(t *testing.T) {
	eachRightSched(3000, func(s impl.Sched) {
		order := slices.Clone(s.List)
		slices.SortStableFunc(order, func(a, b impl.Ready) int { return int(b.Pass - a.Pass) })
		var rests []int64
		now := s
		for _, one := range order {
			r := impl.LeaveSched(now, one.Id)
			if r.Code != impl.OK || r.Rest != one.Pass-s.Base || r.Sched.Base != s.Base {
				t.Fatal("leave", now, one, r)
			}
			now, rests = r.Sched, append(rests, r.Rest)
		}
		if !impl.SameScheds(now, impl.Sched{Base: s.Base}) {
			t.Fatal("nobody is left", now)
		}
		for at := len(order) - 1; at >= 0; at-- {
			r := impl.JoinSched(now, order[at].Id, order[at].Tickets, rests[at])
			if s.Base+rests[at] > mostBase {
				wantSched(t, "too far", r, deniedBy(impl.ErrFull))
				return
			}
			if r.Code != impl.OK || impl.SchedFault(r.Sched) != impl.OK {
				t.Fatal("join", now, order[at], r)
			}
			now = r.Sched
		}
		if !impl.SameScheds(now, s) {
			t.Fatal("back", now, "was", s)
		}
	})
}

// Promise 6: to pick by parts is to pick by the whole, and is to pick one by one.
func TestPicksByPartsAreThoseByTheWhole(t *testing.T) {
	var chance steps
	eachRightSched(2000, func(s impl.Sched) {
		n := chance.below(201)
		part := chance.below(n + 1)
		whole := impl.PicksOf(s, n)
		if whole.Code != impl.OK {
			if whole.Code != impl.ErrNone && whole.Code != impl.ErrFull {
				t.Fatal("whole", s, n, whole)
			}
			return
		}
		first := impl.PicksOf(s, part)
		second := impl.PicksOf(first.Sched, n-part)
		joined := impl.PicksResult{Code: first.Code + second.Code, Ids: join(first.Ids, second.Ids), Sched: second.Sched}
		if !samePicks(joined, whole) {
			t.Fatal("by parts", s, part, n, joined, whole)
		}
		var single impl.PicksResult
		single.Sched = s
		for range n {
			r := impl.PickSched(single.Sched)
			single = impl.PicksResult{Code: single.Code + r.Code, Ids: append(single.Ids, r.Id), Sched: r.Sched}
		}
		if !samePicks(single, whole) {
			t.Fatal("one by one", s, n, single, whole)
		}
	})
}

// Promise 6: to count from another base picks the same ones, and comes to the
// same end but for the base.
func TestAnotherBasePicksTheSame(t *testing.T) {
	var chance steps
	eachRightSched(2000, func(s impl.Sched) {
		rebased := impl.RebaseSched(s)
		if rebased.Code != impl.OK || rebased.Rest != s.Base || rebased.Sched.Base != 0 || impl.SchedFault(rebased.Sched) != impl.OK {
			t.Fatal("rebase", s, rebased)
		}
		n := chance.below(201)
		was, is := impl.PicksOf(s, n), impl.PicksOf(rebased.Sched, n)
		if was.Code == impl.ErrFull {
			return
		}
		ends := impl.SameScheds(impl.RebaseSched(was.Sched).Sched, impl.RebaseSched(is.Sched).Sched)
		if was.Code != is.Code || !slices.Equal(was.Ids, is.Ids) || !ends {
			t.Fatal("picks", s, n, was, is)
		}
		if was.Code == impl.OK && was.Sched.Base-is.Sched.Base != s.Base {
			t.Fatal("base", s, n, was, is)
		}
		again := impl.RebaseSched(rebased.Sched)
		wantSched(t, "rebased twice", again, turnedTo(rebased.Sched))
	})
}

// Who has twice as many tickets comes twice as often: from one pass on, each one
// comes as many times as it has tickets, until all have one pass again.
func TestEachOneComesAsItsTicketsSay(t *testing.T) {
	var chance steps
	for round := range 500 {
		s := chanceSched(&chance, 1+round%5)
		s.Base = 77
		var all int64
		for at := range s.List {
			s.List[at].Pass = s.Base
			all += s.List[at].Tickets
		}
		r := impl.PicksOf(s, all)
		if r.Code != impl.OK || r.Sched.Base != s.Base+big {
			t.Fatal(s, r)
		}
		for at, one := range s.List {
			if toldCount(r.Ids, one.Id) != one.Tickets || r.Sched.List[at].Pass != s.Base+big {
				t.Fatal("not as many as its tickets", s, one, r)
			}
		}
	}
}

// Long rows of all calls in turn: what is answered never has a fault, and the
// base never falls but by being told to.
func TestSchedulesStayRight(t *testing.T) {
	var chance steps
	for range 200 {
		s := impl.Sched{Base: chance.below(mostBase)}
		for range 200 {
			id, tickets := chance.below(5), 1+chance.below(10)
			var r impl.SchedResult
			switch chance.below(5) {
			case 0, 1:
				rest := chance.below(toldStride(tickets) + 1)
				r = impl.JoinSched(s, id, tickets, rest)
				wantSched(t, "join", r, toldJoin(s, id, tickets, rest))
			case 2:
				r = impl.LeaveSched(s, id)
				wantSched(t, "leave", r, toldLeave(s, id))
			default:
				r = impl.PickSched(s)
				wantSched(t, "pick", r, toldPick(s))
			}
			if r.Code != impl.OK {
				continue
			}
			if impl.SchedFault(r.Sched) != impl.OK || r.Sched.Base < s.Base {
				t.Fatal("turned", s, r)
			}
			s = r.Sched
		}
	}
}
