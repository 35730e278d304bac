package tests

import (
	"slices"
	"testing"

	"loop.example/g00789/impl"
)

// toldQueueFault and those below are what the document says of locks and
// queues, read word for word and apart from the program.
func toldQueueFault(q []int64) int64 {
	if len(q) > 5 {
		return impl.ErrMany
	}
	for _, id := range q {
		if !among(id, 0, 4) {
			return impl.ErrRange
		}
	}
	if toldHasTwice(q) {
		return impl.ErrTaken
	}
	return impl.OK
}

func toldLockFault(l impl.Lock) int64 {
	if !among(l.Owner, -1, 4) {
		return impl.ErrRange
	}
	if code := toldQueueFault(l.Queue); code != impl.OK {
		return code
	}
	if l.Owner == -1 && len(l.Queue) != 0 {
		return impl.ErrState
	}
	for _, id := range l.Queue {
		if id == l.Owner {
			return impl.ErrState
		}
	}
	return impl.OK
}

func toldTake(l impl.Lock, id int64) impl.LockResult {
	code := toldLockFault(l)
	switch {
	case code != impl.OK:
	case !among(id, 0, 4):
		code = impl.ErrRange
	case slices.Contains(join([]int64{l.Owner}, l.Queue), id):
		code = impl.ErrTaken
	}
	if code != impl.OK {
		return lockDenied(code)
	}
	if l.Owner == -1 {
		return gotBy(id)
	}
	return heldAs(lockOf(l.Owner, join(l.Queue, []int64{id})...))
}

func toldPass(l impl.Lock, id int64) impl.LockResult {
	code := toldLockFault(l)
	switch {
	case code != impl.OK:
	case !among(id, 0, 4):
		code = impl.ErrRange
	case id != l.Owner:
		code = impl.ErrOwner
	}
	if code != impl.OK {
		return lockDenied(code)
	}
	if len(l.Queue) == 0 {
		return heldAs(nobodys())
	}
	return passedTo(l.Queue[0], join(l.Queue[1:])...)
}

func toldWait(q []int64, id int64) impl.LockResult {
	code := toldQueueFault(q)
	switch {
	case code != impl.OK:
	case !among(id, 0, 4):
		code = impl.ErrRange
	case slices.Contains(q, id):
		code = impl.ErrTaken
	}
	if code != impl.OK {
		return lockDenied(code)
	}
	return queued(join(q, []int64{id})...)
}

func toldWakeFault(q []int64, l impl.Lock) int64 {
	if code := toldQueueFault(q); code != impl.OK {
		return code
	}
	return toldLockFault(l)
}

func toldWakeOne(q []int64, l impl.Lock) impl.LockResult {
	code := toldWakeFault(q, l)
	if code == impl.OK && len(q) == 0 {
		code = impl.ErrNone
	}
	if code != impl.OK {
		return lockDenied(code)
	}
	r := toldTake(l, q[0])
	if r.Code != impl.OK {
		return lockDenied(r.Code)
	}
	return woken(r.Got, q[0], r.Lock, join(q[1:])...)
}

func toldWakeAll(q []int64, l impl.Lock) impl.LockResult {
	if code := toldWakeFault(q, l); code != impl.OK {
		return lockDenied(code)
	}
	all := heldAs(lockOf(l.Owner, join(l.Queue)...))
	for _, id := range q {
		r := toldTake(all.Lock, id)
		switch {
		case r.Code != impl.OK:
			return lockDenied(r.Code)
		case r.Got:
			all = woken(true, id, r.Lock)
		default:
			all.Lock = r.Lock
		}
	}
	return all
}

// checkLockAnswer takes an answer to pieces: to write into one of its lists
// leaves the other one as it is.
func checkLockAnswer(t *testing.T, name string, r impl.LockResult, want impl.LockResult) {
	t.Helper()
	if !sameLockResults(r, want) {
		t.Fatalf("%s: %v, want %v", name, r, want)
	}
	scribble(r.Lock.Queue)
	if !slices.Equal(r.Queue, want.Queue) {
		t.Fatalf("%s: the lists of an answer are shared: %v, want %v", name, r.Queue, want.Queue)
	}
	scribble(r.Queue)
}

// checkLockAsk asks twice, of memory that would show a change, and holds the
// answers against what the document tells. The queue and the lock stand in one
// memory, one behind the other, so that an append to either is seen, too.
func checkLockAsk(t *testing.T, name string, q []int64, l impl.Lock, ask func(q []int64, l impl.Lock) impl.LockResult, want impl.LockResult) {
	t.Helper()
	whole, _ := spare(join(q, l.Queue))
	before := slices.Clone(whole)
	partQ, partL := whole[:len(q)], impl.Lock{Owner: l.Owner, Queue: whole[len(q) : len(q)+len(l.Queue)]}
	first, second := ask(partQ, partL), ask(partQ, partL)
	checkLockAnswer(t, name, first, want)
	if !slices.Equal(whole, before) {
		t.Fatalf("%s of %v and %v: an argument was turned or is shared: %v", name, q, l, whole)
	}
	scribble(whole)
	checkLockAnswer(t, name+" again", second, want)
}

func checkLock(t *testing.T, l impl.Lock, ids []int64) {
	t.Helper()
	fault := func(q []int64, l impl.Lock) impl.LockResult { return lockDenied(impl.LockFault(l)) }
	checkLockAsk(t, "fault", nil, l, fault, lockDenied(toldLockFault(l)))
	for _, id := range ids {
		take := func(q []int64, l impl.Lock) impl.LockResult { return impl.TakeLock(l, id) }
		pass := func(q []int64, l impl.Lock) impl.LockResult { return impl.PassLock(l, id) }
		checkLockAsk(t, "take", nil, l, take, toldTake(l, id))
		checkLockAsk(t, "pass", nil, l, pass, toldPass(l, id))
	}
}

func checkQueue(t *testing.T, q []int64, ids []int64) {
	t.Helper()
	fault := func(q []int64, l impl.Lock) impl.LockResult { return lockDenied(impl.QueueFault(q)) }
	checkLockAsk(t, "fault of a queue", q, impl.Lock{}, fault, lockDenied(toldQueueFault(q)))
	for _, id := range ids {
		wait := func(q []int64, l impl.Lock) impl.LockResult { return impl.WaitQueue(q, id) }
		checkLockAsk(t, "wait", q, impl.Lock{}, wait, toldWait(q, id))
	}
}

func checkWakes(t *testing.T, q []int64, l impl.Lock) {
	t.Helper()
	checkLockAsk(t, "wake one", q, l, impl.WakeOne, toldWakeOne(q, l))
	checkLockAsk(t, "wake all", q, l, impl.WakeAll, toldWakeAll(q, l))
}

// eachQueue calls see with every list of up to so many of the values.
func eachQueue(most int, values []int64, see func(q []int64)) {
	for size := 0; size <= most; size++ {
		eachList(size, values, see)
	}
}

// rightOnes are all queues that have no fault, and all such locks.
func rightOnes() (queues [][]int64, locks []impl.Lock) {
	eachQueue(5, []int64{0, 1, 2, 3, 4}, func(q []int64) {
		if toldHasTwice(q) {
			return
		}
		queues = append(queues, q)
		for owner := int64(-1); owner < 5; owner++ {
			if !slices.Contains(q, owner) && (owner != -1 || len(q) == 0) {
				locks = append(locks, lockOf(owner, q...))
			}
		}
	})
	return queues, locks
}

// Promise 1: every short queue and lock, of threads on both sides of each bound.
func TestEveryCallOnShortQueuesAndLocks(t *testing.T) {
	values := []int64{lowest, -1, 0, 1, 4, 5, highest}
	owners := []int64{lowest, -2, -1, 0, 1, 4, 5, highest}
	var locks []impl.Lock
	eachQueue(2, values, func(q []int64) {
		for _, owner := range owners {
			locks = append(locks, lockOf(owner, q...))
		}
	})
	for _, l := range locks {
		checkLock(t, l, lockIds)
	}
	eachQueue(2, values, func(q []int64) {
		checkQueue(t, q, lockIds)
		for _, l := range locks {
			checkWakes(t, q, l)
		}
	})
}

// Promise 1: every list of three to six that are threads, as a queue and as one
// of a lock that somebody owns, or nobody.
func TestEveryCallOnQueuesAndLocksWithoutRangeFaults(t *testing.T) {
	for size := 3; size <= 6; size++ {
		eachList(size, []int64{0, 1, 2, 3, 4}, func(q []int64) {
			checkQueue(t, q, []int64{0, 3, 5})
			for owner := int64(-1); owner < 5; owner++ {
				checkLock(t, lockOf(owner, q...), []int64{owner, 1})
			}
		})
	}
}

// Promise 1: every queue without a fault beside every lock without one.
func TestEveryCallOnRightQueuesAndLocks(t *testing.T) {
	queues, locks := rightOnes()
	if len(queues) != 326 || len(locks) != 326 {
		t.Fatal("so many", len(queues), len(locks))
	}
	for _, l := range locks {
		checkLock(t, l, lockIds)
	}
	for _, q := range queues {
		checkQueue(t, q, lockIds)
		for _, l := range locks {
			checkWakes(t, q, l)
		}
	}
}

// spoiledQueue has one turned, two that are the same or one more.
func spoiledQueue(chance *steps, q []int64) []int64 {
	q = slices.Clone(q)
	if len(q) == 0 {
		return append(q, []int64{lowest, -1, 0, 4, 5, highest}[chance.below(6)])
	}
	at, other := chance.below(int64(len(q))), chance.below(int64(len(q)))
	switch chance.below(3) {
	case 0:
		q[at] = []int64{lowest, -2, -1, 0, 4, 5, highest}[chance.below(7)]
	case 1:
		q[at] = q[other]
	case 2:
		q = append(q, q[at])
	}
	return q
}

// Promise 1: long queues beside long locks, right ones and such as are right
// but for one or two faults in either.
func TestEveryCallOnSpoiledQueuesAndLocks(t *testing.T) {
	queues, locks := rightOnes()
	var chance steps
	for range 30000 {
		q := queues[chance.below(int64(len(queues)))]
		l := locks[chance.below(int64(len(locks)))]
		for range chance.below(3) {
			switch chance.below(3) {
			case 0:
				q = spoiledQueue(&chance, q)
			case 1:
				l.Queue = spoiledQueue(&chance, l.Queue)
			case 2:
				l.Owner = []int64{lowest, -2, -1, 0, 1, 2, 3, 4, 5, highest}[chance.below(10)]
			}
		}
		checkLock(t, l, []int64{l.Owner, lockIds[chance.below(int64(len(lockIds)))]})
		checkQueue(t, q, []int64{lockIds[chance.below(int64(len(lockIds)))]})
		checkWakes(t, q, l)
	}
}

// Promise 1: a queue that is the lock's own memory is answered like any other.
func TestAQueueThatIsTheLocksOwn(t *testing.T) {
	_, locks := rightOnes()
	for _, l := range locks {
		before := slices.Clone(l.Queue)
		wantLock(t, "wake one", impl.WakeOne(l.Queue, l), toldWakeOne(before, lockOf(l.Owner, before...)))
		wantLock(t, "wake all", impl.WakeAll(l.Queue, l), toldWakeAll(before, lockOf(l.Owner, before...)))
		if !slices.Equal(l.Queue, before) {
			t.Fatal("turned", before, l)
		}
	}
}

// Promise 1: locks are the same when both fields are, whatever stands there; to
// be asked turns neither.
func TestEveryTwoLocksAreCompared(t *testing.T) {
	var all []impl.Lock
	eachQueue(2, []int64{lowest, -1, 0, 1, 5}, func(q []int64) {
		for _, owner := range []int64{lowest, -1, 0, 1} {
			all = append(all, lockOf(owner, q...))
		}
	})
	for _, a := range all {
		for _, b := range all {
			wholeA, partA := spare(a.Queue)
			wholeB, partB := spare(b.Queue)
			beforeA, beforeB := slices.Clone(wholeA), slices.Clone(wholeB)
			if got := impl.SameLocks(lockOf(a.Owner, partA...), lockOf(b.Owner, partB...)); got != sameLock(a, b) {
				t.Fatal(a, b, got)
			}
			if !slices.Equal(wholeA, beforeA) || !slices.Equal(wholeB, beforeB) {
				t.Fatal("an argument was turned", a, b)
			}
		}
	}
}

// arrivals says who came when, as an observer writes it down that knows nothing
// of queues.
type arrivals map[int64]int

// longest is who has waited for longest, or -1.
func (a arrivals) longest() int64 {
	who := int64(-1)
	for id, when := range a {
		if who == -1 || when < a[who] {
			who = id
		}
	}
	return who
}

// wantWaiting wants the lock to have this owner, and just those waiting that came.
func wantWaiting(t *testing.T, l impl.Lock, owner int64, came arrivals) {
	t.Helper()
	if impl.LockFault(l) != impl.OK || l.Owner != owner || len(l.Queue) != len(came) {
		t.Fatal("lock", l, "owner", owner, "came", came)
	}
	for _, id := range l.Queue {
		if _, waits := came[id]; !waits {
			t.Fatal("waits", l, "came", came)
		}
	}
}

// Promise 7: in long rows of calls by anybody the lock has the owner that an
// observer tells, and goes to whoever has waited for longest; what is refused
// turns nothing.
func TestALockGoesToWhoeverWaitsForLongest(t *testing.T) {
	var chance steps
	for range 300 {
		l, owner, came := nobodys(), int64(-1), arrivals{}
		for now := range 200 {
			id := chance.below(5)
			_, waits := came[id]
			if chance.below(2) == 0 {
				r := impl.TakeLock(l, id)
				switch {
				case id == owner || waits:
					wantLock(t, "taken again", r, lockDenied(impl.ErrTaken))
					continue
				case owner == -1:
					owner = id
				default:
					came[id] = now
				}
				if r.Code != impl.OK || r.Got != (owner == id) || r.Next != -1 {
					t.Fatal("take", l, id, r)
				}
				l = r.Lock
			} else {
				r := impl.PassLock(l, id)
				if id != owner {
					wantLock(t, "passed by another one", r, lockDenied(impl.ErrOwner))
					continue
				}
				owner = came.longest()
				delete(came, owner)
				if r.Code != impl.OK || r.Got || r.Next != owner {
					t.Fatal("pass", l, id, r)
				}
				l = r.Lock
			}
			wantWaiting(t, l, owner, came)
		}
	}
}

// Promise 7: in long rows of waits and wakes the one that has waited for longest
// is woken first, be it for a lock that somebody owns or that nobody does.
func TestWhoWaitsForLongestIsWokenFirst(t *testing.T) {
	var chance steps
	_, locks := rightOnes()
	for range 300 {
		var q []int64
		came := arrivals{}
		for now := range 200 {
			id := chance.below(5)
			if chance.below(2) == 0 {
				r := impl.WaitQueue(q, id)
				if _, waits := came[id]; waits {
					wantLock(t, "waits already", r, lockDenied(impl.ErrTaken))
					continue
				}
				came[id] = now
				wantLock(t, "wait", r, queued(join(q, []int64{id})...))
				q = r.Queue
				continue
			}
			l := locks[chance.below(int64(len(locks)))]
			r := impl.WakeOne(q, l)
			first := came.longest()
			if first == -1 {
				wantLock(t, "nobody waits", r, lockDenied(impl.ErrNone))
				continue
			}
			if l.Owner == first || slices.Contains(l.Queue, first) {
				wantLock(t, "it is there already", r, lockDenied(impl.ErrTaken))
				continue
			}
			delete(came, first)
			if r.Code != impl.OK || r.Next != first || r.Got != (l.Owner == -1) || len(r.Queue) != len(came) {
				t.Fatal("wake", q, l, r)
			}
			q = r.Queue
		}
	}
}

// Promise 7: to wake all is to wake one until nobody waits; those that did not
// get the lock get it by being passed to, in the order in which they waited.
func TestWakingAllIsWakingOneByOne(t *testing.T) {
	queues, locks := rightOnes()
	for _, q := range queues {
		for _, l := range locks {
			all := impl.WakeAll(q, l)
			code, got, next := int64(impl.OK), false, int64(-1)
			rest, now := q, l
			for len(rest) > 0 && code == impl.OK {
				r := impl.WakeOne(rest, now)
				code, rest, now = r.Code, r.Queue, r.Lock
				if r.Got {
					got, next = true, r.Next
				}
			}
			if code != impl.OK {
				wantLock(t, "refused", all, lockDenied(code))
				continue
			}
			wantLock(t, "woken", all, woken(got, next, now))
			wantServed(t, all.Lock, slices.DeleteFunc(join([]int64{l.Owner}, l.Queue, q), func(id int64) bool { return id == -1 }))
		}
	}
}

// wantServed wants the lock to go through just those hands, and to nobody then.
func wantServed(t *testing.T, l impl.Lock, hands []int64) {
	t.Helper()
	for at, owner := range hands {
		next := int64(-1)
		if at+1 < len(hands) {
			next = hands[at+1]
		}
		r := impl.PassLock(l, owner)
		if r.Code != impl.OK || r.Next != next || r.Lock.Owner != next {
			t.Fatal("passed", l, r, hands)
		}
		l = r.Lock
	}
	if !sameLock(l, nobodys()) {
		t.Fatal("at last", l, hands)
	}
}
