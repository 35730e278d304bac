package tests

import (
	"slices"
	"testing"

	"loop.example/g00789/impl"
)

func TestWhoIsBlocked(t *testing.T) {
	const work, lock, unlock, end = impl.OpWork, impl.OpLock, impl.OpUnlock, impl.OpEnd
	two := []impl.Plan{planOf(1, opLock(0), opWork(), opUnlock(0)), planOf(1, opLock(0), opUnlock(0))}
	twoNotes := []impl.LibNote{did(0, lock), did(1, lock), did(0, work), did(0, unlock), did(0, end), did(1, unlock), did(1, end), nobodyDid()}
	cross := []impl.Plan{planOf(1, opLock(0), opLock(1)), planOf(1, opLock(1), opLock(0))}
	line := append([]impl.Plan{planOf(1, opLock(1), opUnlock(1))}, slices.Repeat([]impl.Plan{planOf(1, opLock(1))}, 4)...)
	checkRuns(t, []run{
		{"while another one owns the lock", two, twoNotes[:3],
			libOf(schedOf(5040, 0, 1, 5040), bothLocks(lockOf(0, 1), nobodys()), bothConds(nil, nil), readyAt(1, 2), blockedAt(1, 1, 0, 0))},
		{"until it is passed on", two, twoNotes[:4],
			libOf(schedOf(7560, 0, 1, 7560, 1, 1, 7560), bothLocks(lockOf(1), nobodys()), bothConds(nil, nil), readyAt(1, 3), readyAt(1, 1))},
		{"and the other one ends", two, twoNotes[:5],
			libOf(schedOf(7560, 1, 1, 7560), bothLocks(lockOf(1), nobodys()), bothConds(nil, nil), doneAt(1, 3, 2520), readyAt(1, 1))},
		{"and both end", two, twoNotes, quietLib(schedOf(12600), doneAt(1, 3, 2520), doneAt(1, 2, 0))},
		{"with a rest", []impl.Plan{planOf(2, opLock(0), opWork(), opUnlock(0)), planOf(1, opLock(0))}, []impl.LibNote{did(0, lock), did(1, lock)},
			libOf(schedOf(1260, 0, 2, 1260), bothLocks(lockOf(0, 1), nobodys()), bothConds(nil, nil), readyAt(2, 1), blockedAt(1, 1, 1260, 0))},
		{"with a rest with which it comes back", []impl.Plan{planOf(2, opLock(0), opWork(), opUnlock(0)), planOf(1, opLock(0))},
			[]impl.LibNote{did(0, lock), did(1, lock), did(0, work), did(0, unlock)},
			libOf(schedOf(3780, 0, 2, 3780, 1, 1, 5040), bothLocks(lockOf(1), nobodys()), bothConds(nil, nil), readyAt(2, 3), readyAt(1, 1))},
		{"each by the other one", cross, []impl.LibNote{did(0, lock), did(1, lock), did(0, lock), did(1, lock), nobodyDid(), nobodyDid()},
			libOf(schedOf(5040), bothLocks(lockOf(0, 1), lockOf(1, 0)), bothConds(nil, nil), blockedAt(1, 2, 2520, 1), blockedAt(1, 2, 0, 0))},
		{"all but one, in the order in which they came", line, []impl.LibNote{did(0, lock), did(1, lock), did(2, lock), did(3, lock), did(4, lock)},
			libOf(schedOf(2520, 0, 1, 2520), bothLocks(nobodys(), lockOf(0, 1, 2, 3, 4)), bothConds(nil, nil),
				readyAt(1, 1), blockedAt(1, 1, 2520, 1), blockedAt(1, 1, 2520, 1), blockedAt(1, 1, 2520, 1), blockedAt(1, 1, 0, 1))},
		{"all but one, and the first one has it", line, []impl.LibNote{did(0, lock), did(1, lock), did(2, lock), did(3, lock), did(4, lock), did(0, unlock)},
			libOf(schedOf(5040, 0, 1, 5040, 1, 1, 7560), bothLocks(nobodys(), lockOf(1, 2, 3, 4)), bothConds(nil, nil),
				readyAt(1, 2), readyAt(1, 1), blockedAt(1, 1, 2520, 1), blockedAt(1, 1, 2520, 1), blockedAt(1, 1, 0, 1))},
		{"all but one, and each passes it on as it ends", line,
			[]impl.LibNote{did(0, lock), did(1, lock), did(2, lock), did(3, lock), did(4, lock), did(0, unlock),
				did(0, end), did(1, end), did(2, end), did(3, end), did(4, end), nobodyDid()},
			quietLib(schedOf(22680), doneAt(1, 2, 0), doneAt(1, 1, 0), doneAt(1, 1, 0), doneAt(1, 1, 0), doneAt(1, 1, 0))},
	})
}

func TestTheEndOfOneThatHoldsLocks(t *testing.T) {
	const work, lock, end = impl.OpWork, impl.OpLock, impl.OpEnd
	// 0 holds both locks; 1 waits for the second one ahead of 2, that waits for the first one.
	three := []impl.Plan{
		planOf(10, opLock(0), opLock(1), opWork(), opWork(), opWork(), opWork()),
		planOf(2, opWork(), opLock(1)),
		planOf(2, opWork(), opLock(0)),
	}
	threeNotes := []impl.LibNote{did(0, lock), did(1, work), did(2, work), did(0, lock), did(0, work), did(0, work),
		did(0, work), did(0, work), did(1, lock), did(2, lock), did(0, end)}
	checkRuns(t, []run{
		{"the first one", []impl.Plan{planOf(10, opLock(0))}, []impl.LibNote{did(0, lock), did(0, end)}, quietLib(schedOf(504), doneAt(10, 1, 0))},
		{"the second one", []impl.Plan{planOf(10, opLock(1))}, []impl.LibNote{did(0, lock), did(0, end)}, quietLib(schedOf(504), doneAt(10, 1, 0))},
		{"both", []impl.Plan{planOf(10, opLock(1), opLock(0))}, []impl.LibNote{did(0, lock), did(0, lock), did(0, end), nobodyDid()},
			quietLib(schedOf(756), doneAt(10, 2, 0))},
		{"one, while another one holds the other", []impl.Plan{planOf(10, opLock(0)), planOf(10, opLock(1), opWork())},
			[]impl.LibNote{did(0, lock), did(1, lock), did(0, end)},
			libOf(schedOf(252, 1, 10, 252), bothLocks(nobodys(), lockOf(1)), bothConds(nil, nil), doneAt(10, 1, 252), readyAt(10, 1))},
		{"none, while another one holds one", []impl.Plan{planOf(10, opLock(0)), planOf(10)}, []impl.LibNote{did(0, lock), did(1, end)},
			libOf(schedOf(252, 0, 10, 252), bothLocks(lockOf(0), nobodys()), bothConds(nil, nil), readyAt(10, 1), doneAt(10, 0, 0))},
		{"both, for which others wait", three, threeNotes[:10],
			libOf(schedOf(1512, 0, 10, 1512), bothLocks(lockOf(0, 2), lockOf(0, 1)), bothConds(nil, nil),
				readyAt(10, 6), blockedAt(2, 2, 1260, 1), blockedAt(2, 2, 1008, 0))},
		{"both, which go to others in the order of the locks", three, threeNotes,
			libOf(schedOf(2772, 1, 2, 4032, 2, 2, 2772), bothLocks(lockOf(2), lockOf(1)), bothConds(nil, nil),
				doneAt(10, 6, 0), readyAt(2, 2), readyAt(2, 2))},
		{"one, for which another one waits, while a third one is ready",
			[]impl.Plan{planOf(10, opLock(0)), planOf(1, opLock(0)), planOf(2, opWork())},
			[]impl.LibNote{did(0, lock), did(1, lock), did(2, work), did(0, end)},
			libOf(schedOf(1260, 1, 1, 3780, 2, 2, 1260), bothLocks(lockOf(1), nobodys()), bothConds(nil, nil),
				doneAt(10, 1, 0), readyAt(1, 1), readyAt(2, 1))},
	})
}

func TestWhoWaits(t *testing.T) {
	const work, lock, wait = impl.OpWork, impl.OpLock, impl.OpWait
	checkRuns(t, []run{
		{"alone", []impl.Plan{planOf(1, opLock(0), opWait(0, 0), opUnlock(0))}, []impl.LibNote{did(0, lock), did(0, wait), nobodyDid(), nobodyDid()},
			libOf(schedOf(5040), bothLocks(nobodys(), nobodys()), bothConds([]int64{0}, nil), waitingAt(1, 2, 0, 0))},
		{"alone with the second lock, at the second cond", []impl.Plan{planOf(1, opLock(1), opWait(1, 1))}, []impl.LibNote{did(0, lock), did(0, wait), nobodyDid()},
			libOf(schedOf(5040), bothLocks(nobodys(), nobodys()), bothConds(nil, []int64{0}), waitingAt(1, 2, 0, 1))},
		{"with a rest", []impl.Plan{planOf(1, opLock(1), opWait(1, 0)), planOf(2, opWork(), opWork())},
			[]impl.LibNote{did(0, lock), did(1, work), did(1, work), did(0, wait)},
			libOf(schedOf(2520, 1, 2, 2520), bothLocks(nobodys(), nobodys()), bothConds([]int64{0}, nil), waitingAt(1, 2, 2520, 1), readyAt(2, 2))},
		{"with one lock, and holds the other one", []impl.Plan{planOf(1, opLock(0), opLock(1), opWait(1, 0)), planOf(1, opLock(0))},
			[]impl.LibNote{did(0, lock), did(1, lock), did(0, lock), did(0, wait), nobodyDid()},
			libOf(schedOf(7560), bothLocks(lockOf(0, 1), nobodys()), bothConds([]int64{0}, nil), waitingAt(1, 3, 0, 1), blockedAt(1, 1, 0, 0))},
		{"and leaves ahead of the one that comes back with its lock",
			[]impl.Plan{planOf(10, opLock(0), opWait(0, 1)), planOf(1, opLock(0)), planOf(2, opWork())},
			[]impl.LibNote{did(0, lock), did(1, lock), did(2, work), did(0, wait)},
			libOf(schedOf(1260, 1, 1, 3780, 2, 2, 1260), bothLocks(lockOf(1), nobodys()), bothConds(nil, []int64{0}),
				waitingAt(10, 2, 0, 0), readyAt(1, 1), readyAt(2, 1))},
	})
}

func TestWhoIsSignalled(t *testing.T) {
	const work, lock, unlock, wait, signal = impl.OpWork, impl.OpLock, impl.OpUnlock, impl.OpWait, impl.OpSignal
	waits := planOf(1, opLock(0), opWait(0, 0), opUnlock(0))
	back := libOf(schedOf(5040, 0, 1, 7560, 1, 1, 5040), bothLocks(lockOf(0), nobodys()), bothConds(nil, nil), readyAt(1, 2), readyAt(1, 2))
	twoWait := []impl.Plan{planOf(1, opLock(0), opWait(0, 0)), planOf(1, opLock(0), opWait(0, 0)), planOf(1, opWork(), opWork(), opSignal(0, 0), opSignal(0, 0))}
	twoNotes := []impl.LibNote{did(0, lock), did(1, lock), did(2, work), did(0, wait), did(2, work), did(1, wait), did(2, signal), did(2, signal)}
	held := []impl.Plan{planOf(1, opLock(0), opWait(0, 1), opWork()), planOf(1, opLock(0), opSignal(0, 1), opUnlock(0))}
	heldNotes := []impl.LibNote{did(0, lock), did(1, lock), did(0, wait), did(1, signal), did(1, unlock)}
	checkRuns(t, []run{
		{"nobody", []impl.Plan{planOf(10, opSignal(0, 0), opSignal(1, 1))}, []impl.LibNote{did(0, signal), did(0, signal)},
			quietLib(schedOf(504, 0, 10, 504), readyAt(10, 2))},
		{"one that gets its lock at once", []impl.Plan{waits, planOf(1, opSignal(0, 0), opSignal(0, 0), opUnlock(0))},
			[]impl.LibNote{did(0, lock), did(1, signal), did(0, wait), did(1, signal)}, back},
		{"one that waited with another lock", []impl.Plan{waits, planOf(1, opWork(), opSignal(1, 0), opUnlock(0))},
			[]impl.LibNote{did(0, lock), did(1, work), did(0, wait), did(1, signal)}, back},
		{"one that waited with another lock than the one that is held", []impl.Plan{waits, planOf(1, opLock(1), opSignal(1, 0))},
			[]impl.LibNote{did(0, lock), did(1, lock), did(0, wait), did(1, signal)},
			libOf(schedOf(5040, 0, 1, 7560, 1, 1, 5040), bothLocks(lockOf(0), lockOf(1)), bothConds(nil, nil), readyAt(1, 2), readyAt(1, 2))},
		{"nobody, since who waits does so at the other cond", []impl.Plan{waits, planOf(1, opWork(), opSignal(0, 1))},
			[]impl.LibNote{did(0, lock), did(1, work), did(0, wait), did(1, signal)},
			libOf(schedOf(5040, 1, 1, 5040), bothLocks(nobodys(), nobodys()), bothConds([]int64{0}, nil), waitingAt(1, 2, 2520, 0), readyAt(1, 2))},
		{"one whose lock another one holds", held, heldNotes[:4],
			libOf(schedOf(7560, 1, 1, 7560), bothLocks(lockOf(1, 0), nobodys()), bothConds(nil, nil), blockedAt(1, 2, 0, 0), readyAt(1, 2))},
		{"one that comes back when that one passes it on", held, heldNotes,
			libOf(schedOf(10080, 0, 1, 10080, 1, 1, 10080), bothLocks(lockOf(0), nobodys()), bothConds(nil, nil), readyAt(1, 2), readyAt(1, 3))},
		{"the first one of two", twoWait, twoNotes[:7],
			libOf(schedOf(7560, 0, 1, 10080, 2, 1, 7560), bothLocks(lockOf(0), nobodys()), bothConds([]int64{1}, nil),
				readyAt(1, 2), waitingAt(1, 2, 2520, 0), readyAt(1, 3))},
		{"one behind the other", twoWait, twoNotes,
			libOf(schedOf(10080, 0, 1, 10080, 2, 1, 10080), bothLocks(lockOf(0, 1), nobodys()), bothConds(nil, nil),
				readyAt(1, 2), blockedAt(1, 2, 2520, 0), readyAt(1, 4))},
	})
}

func TestWhoIsToldByABroadcast(t *testing.T) {
	const work, lock, wait, broadcast = impl.OpWork, impl.OpLock, impl.OpWait, impl.OpBroadcast
	same := []impl.Plan{planOf(1, opLock(0), opWait(0, 0)), planOf(1, opLock(0), opWait(0, 0))}
	sameNotes := []impl.LibNote{did(0, lock), did(1, lock), did(2, work), did(0, wait), did(2, work), did(1, wait), did(2, broadcast)}
	other := []impl.Plan{planOf(1, opLock(0), opWait(0, 1)), planOf(1, opLock(1), opWait(1, 1))}
	checkRuns(t, []run{
		{"nobody", []impl.Plan{planOf(10, opBroadcast(0, 0), opBroadcast(1, 1))}, []impl.LibNote{did(0, broadcast), did(0, broadcast)},
			quietLib(schedOf(504, 0, 10, 504), readyAt(10, 2))},
		{"one that waited with another lock than it names", []impl.Plan{planOf(1, opLock(0), opWait(0, 0)), planOf(1, opLock(1), opBroadcast(1, 0))},
			[]impl.LibNote{did(0, lock), did(1, lock), did(0, wait), did(1, broadcast)},
			libOf(schedOf(5040, 0, 1, 7560, 1, 1, 5040), bothLocks(lockOf(0), lockOf(1)), bothConds(nil, nil), readyAt(1, 2), readyAt(1, 2))},
		{"two with the same lock", append(slices.Clone(same), planOf(1, opWork(), opWork(), opBroadcast(0, 0))), sameNotes,
			libOf(schedOf(7560, 0, 1, 10080, 2, 1, 7560), bothLocks(lockOf(0, 1), nobodys()), bothConds(nil, nil),
				readyAt(1, 2), blockedAt(1, 2, 2520, 0), readyAt(1, 3))},
		{"none of two that wait at the other cond", append(slices.Clone(same), planOf(1, opWork(), opWork(), opBroadcast(0, 1))), sameNotes,
			libOf(schedOf(7560, 2, 1, 7560), bothLocks(nobodys(), nobodys()), bothConds([]int64{0, 1}, nil),
				waitingAt(1, 2, 2520, 0), waitingAt(1, 2, 2520, 0), readyAt(1, 3))},
		{"all others with the same lock", append(slices.Repeat([]impl.Plan{planOf(10, opLock(1), opWait(1, 0))}, 4),
			planOf(1, opWork(), opWork(), opWork(), opWork(), opBroadcast(0, 0))),
			[]impl.LibNote{did(0, lock), did(1, lock), did(2, lock), did(3, lock), did(4, work), did(0, wait), did(4, work), did(1, wait),
				did(4, work), did(2, wait), did(4, work), did(3, wait), did(4, broadcast)},
			libOf(schedOf(12600, 0, 10, 12600, 4, 1, 12600), bothLocks(nobodys(), lockOf(0, 1, 2, 3)), bothConds(nil, nil),
				readyAt(10, 2), blockedAt(10, 2, 0, 1), blockedAt(10, 2, 0, 1), blockedAt(10, 2, 0, 1), readyAt(1, 5))},
		{"two with two locks", append(slices.Clone(other), planOf(1, opWork(), opWork(), opBroadcast(0, 1))),
			[]impl.LibNote{did(0, lock), did(1, lock), did(2, work), did(0, wait), did(1, wait), did(2, work), did(2, broadcast)},
			libOf(schedOf(7560, 0, 1, 10080, 1, 1, 10080, 2, 1, 7560), bothLocks(lockOf(0), lockOf(1)), bothConds(nil, nil),
				readyAt(1, 2), readyAt(1, 2), readyAt(1, 3))},
		{"two with two locks, one of which is held", append(slices.Clone(other), planOf(1, opWork(), opLock(1), opBroadcast(0, 1))),
			[]impl.LibNote{did(0, lock), did(1, lock), did(2, work), did(0, wait), did(1, wait), did(2, lock), did(2, broadcast)},
			libOf(schedOf(7560, 0, 1, 10080, 2, 1, 7560), bothLocks(lockOf(0), lockOf(2, 1)), bothConds(nil, nil),
				readyAt(1, 2), blockedAt(1, 2, 2520, 1), readyAt(1, 3))},
	})
}

func TestHeldBy(t *testing.T) {
	held := func(owners ...int64) impl.Lib {
		var l impl.Lib
		for _, owner := range owners {
			l.Locks = append(l.Locks, lockOf(owner))
		}
		return l
	}
	many := held(slices.Repeat([]int64{1, 0}, 1000)...)
	var odd []int64
	for place := int64(1); place < 2000; place += 2 {
		odd = append(odd, place)
	}
	cases := []struct {
		name string
		l    impl.Lib
		id   int64
		want []int64
	}{
		{"no locks", impl.Lib{}, 0, nil},
		{"nobody's", held(-1, -1), 0, nil},
		{"another one's", held(1, 2), 3, nil},
		{"zero locks, which are of 0", impl.Lib{Locks: make([]impl.Lock, 2)}, 0, []int64{0, 1}},
		{"the first one", held(2, -1), 2, []int64{0}},
		{"the second one", held(-1, 4), 4, []int64{1}},
		{"both", held(4, 4), 4, []int64{0, 1}},
		{"one lock", held(3), 3, []int64{0}},
		{"some of more", held(1, 0, 1, -1, 1), 1, []int64{0, 2, 4}},
		{"half of many", many, 0, odd},
		{"one for which it waits itself", impl.Lib{Locks: []impl.Lock{lockOf(1, 1, 2), lockOf(2, 1)}}, 1, []int64{0}},
		{"of a library that has faults", impl.Lib{Sched: schedOf(-1, 9, 9, 9), Threads: make([]impl.Thread, 9), Locks: []impl.Lock{lockOf(9), lockOf(2, 7, 7)}}, 2, []int64{1}},
	}
	for _, c := range cases {
		if got := impl.HeldBy(c.l, c.id); got.Code != impl.OK || !slices.Equal(got.List, c.want) {
			t.Errorf("%s: %v, want %v", c.name, got, c.want)
		}
		for _, id := range []int64{lowest, -2, -1, 5, 6, 1 << 32, highest} {
			if got := impl.HeldBy(c.l, id); got.Code != impl.ErrRange || len(got.List) != 0 {
				t.Errorf("%s by %d: %v, want ErrRange alone", c.name, id, got)
			}
		}
	}
	for _, id := range []int64{lowest, -2, -1, 5, 9, 1 << 32, highest} {
		if got := impl.HeldBy(held(id, id), id); got.Code != impl.ErrRange || len(got.List) != 0 {
			t.Errorf("what %d owns: %v, want ErrRange alone", id, got)
		}
	}
}

func TestHeldByBehindSteps(t *testing.T) {
	plans := []impl.Plan{planOf(1, opLock(1), opLock(0), opUnlock(1))}
	for steps, want := range [][]int64{nil, {1}, {0, 1}, {0}, nil} {
		if got := impl.HeldBy(impl.RunLib(plans, int64(steps)).Lib, 0); got.Code != impl.OK || !slices.Equal(got.List, want) {
			t.Error("behind", steps, got, want)
		}
	}
}

// fullLib has something in each of its lists.
func fullLib() impl.Lib {
	return libOf(schedOf(100, 0, 2, 100, 3, 1, 350), bothLocks(lockOf(0, 1), lockOf(3, 4, 2)), bothConds([]int64{2, 1}, []int64{4}),
		readyAt(2, 1), blockedAt(1, 2, 3, 1), waitingAt(4, 3, 2, 1), doneAt(5, 8, 7))
}

func TestSameLibs(t *testing.T) {
	turned := func(turn func(l *impl.Lib)) impl.Lib {
		l := fullLib()
		turn(&l)
		return l
	}
	others := []struct {
		name string
		l    impl.Lib
	}{
		{"zero", impl.Lib{}},
		{"base", turned(func(l *impl.Lib) { l.Sched.Base = 99 })},
		{"who is ready", turned(func(l *impl.Lib) { l.Sched.List[1].Id = 4 })},
		{"tickets of who is ready", turned(func(l *impl.Lib) { l.Sched.List[0].Tickets = 3 })},
		{"pass", turned(func(l *impl.Lib) { l.Sched.List[1].Pass = 351 })},
		{"fewer that are ready", turned(func(l *impl.Lib) { l.Sched.List = l.Sched.List[:1] })},
		{"nobody that is ready", turned(func(l *impl.Lib) { l.Sched.List = nil })},
		{"tickets", turned(func(l *impl.Lib) { l.Threads[0].Tickets = 1 })},
		{"pc", turned(func(l *impl.Lib) { l.Threads[1].Pc = 3 })},
		{"state", turned(func(l *impl.Lib) { l.Threads[3].State = impl.StReady })},
		{"rest", turned(func(l *impl.Lib) { l.Threads[2].Rest = 0 })},
		{"lock of a thread", turned(func(l *impl.Lib) { l.Threads[1].Lock = 0 })},
		{"the other order of threads", turned(func(l *impl.Lib) { l.Threads[0], l.Threads[1] = l.Threads[1], l.Threads[0] })},
		{"fewer threads", turned(func(l *impl.Lib) { l.Threads = l.Threads[:3] })},
		{"more threads", turned(func(l *impl.Lib) { l.Threads = append(l.Threads, impl.Thread{}) })},
		{"owner of the first lock", turned(func(l *impl.Lib) { l.Locks[0].Owner = -1 })},
		{"owner of the second lock", turned(func(l *impl.Lib) { l.Locks[1].Owner = 0 })},
		{"queue of the first lock", turned(func(l *impl.Lib) { l.Locks[0].Queue = nil })},
		{"queue of the second lock", turned(func(l *impl.Lib) { l.Locks[1].Queue = []int64{2, 4} })},
		{"the other order of locks", turned(func(l *impl.Lib) { l.Locks[0], l.Locks[1] = l.Locks[1], l.Locks[0] })},
		{"fewer locks", turned(func(l *impl.Lib) { l.Locks = l.Locks[:1] })},
		{"more locks", turned(func(l *impl.Lib) { l.Locks = append(l.Locks, impl.Lock{}) })},
		{"who waits at the first cond", turned(func(l *impl.Lib) { l.Conds[0] = []int64{1, 2} })},
		{"who waits at the second cond", turned(func(l *impl.Lib) { l.Conds[1] = nil })},
		{"the other order of conds", turned(func(l *impl.Lib) { l.Conds[0], l.Conds[1] = l.Conds[1], l.Conds[0] })},
		{"the same in other conds", turned(func(l *impl.Lib) { l.Conds = bothConds([]int64{2}, []int64{1, 4}) })},
		{"fewer conds", turned(func(l *impl.Lib) { l.Conds = l.Conds[:1] })},
		{"more conds", turned(func(l *impl.Lib) { l.Conds = append(l.Conds, nil) })},
		{"numbers that are the same in 32 bits", turned(func(l *impl.Lib) { l.Threads[0].Pc += 1 << 32 })},
	}
	for at, a := range others {
		if impl.SameLibs(a.l, fullLib()) || impl.SameLibs(fullLib(), a.l) {
			t.Error("another one is the same:", a.name)
		}
		for other, b := range others {
			if impl.SameLibs(a.l, b.l) != (at == other) {
				t.Error("held against each other:", a.name, b.name)
			}
		}
	}
}

func TestSameLibsOfSuchAsAreTheSame(t *testing.T) {
	empty := impl.Lib{Sched: impl.Sched{List: []impl.Ready{}}, Threads: []impl.Thread{}, Locks: []impl.Lock{}, Conds: [][]int64{}}
	inner := libOf(impl.Sched{}, []impl.Lock{{Queue: []int64{}}}, [][]int64{{}})
	faulty := func() impl.Lib {
		return libOf(schedOf(lowest, highest, -1, lowest), []impl.Lock{lockOf(highest, lowest)}, [][]int64{{9, 9}, nil, {lowest}}, impl.Thread{Pc: lowest, State: 77})
	}
	cases := []struct {
		name string
		a, b impl.Lib
	}{
		{"zero and zero", impl.Lib{}, impl.Lib{}},
		{"nil and empty", impl.Lib{}, empty},
		{"nil and empty within", libOf(impl.Sched{}, []impl.Lock{{}}, [][]int64{nil}), inner},
		{"full ones", fullLib(), fullLib()},
		{"such as have faults", faulty(), faulty()},
	}
	for _, c := range cases {
		if !impl.SameLibs(c.a, c.b) || !impl.SameLibs(c.b, c.a) || !impl.SameLibs(c.a, c.a) {
			t.Error(c.name)
		}
	}
}
