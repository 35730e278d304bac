package tests

import (
	"slices"
	"testing"

	"loop.example/g00789/impl"
)

func lockOf(owner int64, queue ...int64) impl.Lock {
	return impl.Lock{Owner: owner, Queue: queue}
}

func nobodys() impl.Lock {
	return lockOf(-1)
}

func sameLock(a impl.Lock, b impl.Lock) bool {
	return a.Owner == b.Owner && slices.Equal(a.Queue, b.Queue)
}

func sameLockResults(a impl.LockResult, b impl.LockResult) bool {
	return a.Code == b.Code && a.Got == b.Got && a.Next == b.Next && sameLock(a.Lock, b.Lock) && slices.Equal(a.Queue, b.Queue)
}

func wantLock(t *testing.T, name string, got impl.LockResult, want impl.LockResult) {
	t.Helper()
	if !sameLockResults(got, want) {
		t.Errorf("%s: %v, want %v", name, got, want)
	}
}

// gotBy, heldAs, passedTo, queued and woken are what calls answer that tell no
// code, and lockDenied is what one answers that does.
func gotBy(owner int64) impl.LockResult {
	return impl.LockResult{Got: true, Next: -1, Lock: lockOf(owner)}
}

func heldAs(l impl.Lock) impl.LockResult {
	return impl.LockResult{Next: -1, Lock: l}
}

func passedTo(next int64, queue ...int64) impl.LockResult {
	return impl.LockResult{Next: next, Lock: lockOf(next, queue...)}
}

func queued(q ...int64) impl.LockResult {
	return impl.LockResult{Next: -1, Queue: q}
}

func woken(got bool, next int64, l impl.Lock, q ...int64) impl.LockResult {
	return impl.LockResult{Got: got, Next: next, Lock: l, Queue: q}
}

func lockDenied(code int64) impl.LockResult {
	return impl.LockResult{Code: code}
}

func TestNumbersOfLocks(t *testing.T) {
	if impl.NoThread != -1 {
		t.Error("NoThread", impl.NoThread)
	}
}

var rightQueues = []struct {
	name string
	q    []int64
}{
	{"nil", nil},
	{"empty", []int64{}},
	{"the least one", []int64{0}},
	{"the highest one", []int64{4}},
	{"two that rise", []int64{0, 4}},
	{"two that fall", []int64{4, 0}},
	{"three", []int64{3, 1, 2}},
	{"all but one", []int64{3, 0, 1, 2}},
	{"all", []int64{0, 1, 2, 3, 4}},
	{"all in another order", []int64{4, 2, 0, 3, 1}},
}

// faultyQueues have one fault or several, with the code that is asked first.
var faultyQueues = []struct {
	name string
	q    []int64
	want int64
}{
	{"too many", []int64{0, 1, 2, 3, 4, 0}, impl.ErrMany},
	{"too many, and all the same", []int64{1, 1, 1, 1, 1, 1}, impl.ErrMany},
	{"too many, and none a thread", []int64{-1, 5, 6, 7, 8, 9}, impl.ErrMany},
	{"too many, the last one no thread", []int64{0, 1, 2, 3, 4, 5}, impl.ErrMany},
	{"many more", make([]int64, 1000), impl.ErrMany},
	{"below", []int64{-2}, impl.ErrRange},
	{"NoThread", []int64{-1}, impl.ErrRange},
	{"above", []int64{5}, impl.ErrRange},
	{"the lowest", []int64{lowest}, impl.ErrRange},
	{"the highest", []int64{highest}, impl.ErrRange},
	{"beyond 32 bits", []int64{1 << 32}, impl.ErrRange},
	{"below at first", []int64{-2, 0, 1}, impl.ErrRange},
	{"NoThread at first", []int64{-1, 0, 1}, impl.ErrRange},
	{"NoThread in the middle", []int64{0, -1, 1}, impl.ErrRange},
	{"NoThread at last", []int64{0, 1, -1}, impl.ErrRange},
	{"NoThread as the last of as many as there may be", []int64{0, 1, 2, 3, -1}, impl.ErrRange},
	{"above at last", []int64{0, 1, 5}, impl.ErrRange},
	{"NoThread twice", []int64{-1, -1}, impl.ErrRange},
	{"above twice", []int64{5, 0, 5}, impl.ErrRange},
	{"below and above", []int64{-1, 5}, impl.ErrRange},
	{"above behind the same one twice", []int64{1, 1, 5}, impl.ErrRange},
	{"below ahead of the same one twice", []int64{-2, 1, 1}, impl.ErrRange},
	{"NoThread between the same one twice", []int64{3, -1, 3}, impl.ErrRange},
	{"the same one twice", []int64{1, 1}, impl.ErrTaken},
	{"the least one twice", []int64{0, 0}, impl.ErrTaken},
	{"the highest one twice", []int64{4, 4}, impl.ErrTaken},
	{"the same one at both ends", []int64{3, 1, 3}, impl.ErrTaken},
	{"the same one three times", []int64{2, 2, 2}, impl.ErrTaken},
	{"two of them twice", []int64{0, 1, 0, 1}, impl.ErrTaken},
	{"the same one at last", []int64{0, 1, 2, 2}, impl.ErrTaken},
	{"the same one at both ends of as many as there may be", []int64{0, 1, 2, 3, 0}, impl.ErrTaken},
}

var rightLocks = []struct {
	name string
	l    impl.Lock
}{
	{"nobody's", nobodys()},
	{"nobody's with an empty queue", impl.Lock{Owner: -1, Queue: []int64{}}},
	{"zero, which is of 0", impl.Lock{}},
	{"of the highest one", lockOf(4)},
	{"of one with an empty queue", impl.Lock{Owner: 2, Queue: []int64{}}},
	{"for which one waits", lockOf(1, 2)},
	{"for which the least one waits", lockOf(1, 0)},
	{"for which two wait", lockOf(1, 2, 0)},
	{"for which all others wait", lockOf(0, 1, 2, 3, 4)},
	{"for which all others wait in another order", lockOf(2, 4, 0, 3, 1)},
}

// faultyLocks have one fault or several, with the code that is asked first.
var faultyLocks = []struct {
	name string
	l    impl.Lock
	want int64
}{
	{"owner below", lockOf(-2), impl.ErrRange},
	{"owner above", lockOf(5), impl.ErrRange},
	{"the lowest owner", lockOf(lowest), impl.ErrRange},
	{"the highest owner", lockOf(highest), impl.ErrRange},
	{"owner beyond 32 bits", lockOf(1 << 32), impl.ErrRange},
	{"owner above, and one waits", lockOf(5, 1), impl.ErrRange},
	{"owner above, and too many wait", lockOf(5, 0, 1, 2, 3, 4, 0), impl.ErrRange},
	{"owner above, and one waits twice", lockOf(5, 1, 1), impl.ErrRange},
	{"owner above waits itself", lockOf(5, 5), impl.ErrRange},
	{"owner below, and one above waits", lockOf(-2, 5), impl.ErrRange},
	{"too many wait", lockOf(0, 1, 2, 3, 4, 1, 2), impl.ErrMany},
	{"too many wait, and for what nobody owns", lockOf(-1, 0, 1, 2, 3, 4, 0), impl.ErrMany},
	{"too many wait, the owner too", lockOf(0, 0, 0, 0, 0, 0, 0), impl.ErrMany},
	{"too many wait, and none is a thread", lockOf(0, 5, 5, 5, 5, 5, 5), impl.ErrMany},
	{"one below waits", lockOf(0, -2), impl.ErrRange},
	{"NoThread waits", lockOf(0, -1), impl.ErrRange},
	{"NoThread waits for what nobody owns", lockOf(-1, -1), impl.ErrRange},
	{"one above waits", lockOf(0, 5), impl.ErrRange},
	{"one above waits behind others", lockOf(0, 1, 2, 5), impl.ErrRange},
	{"one above waits for what nobody owns", lockOf(-1, 1, 5), impl.ErrRange},
	{"one above waits, and the owner", lockOf(0, 0, 5), impl.ErrRange},
	{"one above waits, and one waits twice", lockOf(0, 1, 1, 5), impl.ErrRange},
	{"the lowest waits", lockOf(0, lowest), impl.ErrRange},
	{"the highest waits", lockOf(0, highest), impl.ErrRange},
	{"one waits twice", lockOf(0, 1, 1), impl.ErrTaken},
	{"one waits twice, not at once", lockOf(0, 1, 2, 1), impl.ErrTaken},
	{"one waits twice for what nobody owns", lockOf(-1, 1, 1), impl.ErrTaken},
	{"the owner waits twice", lockOf(1, 1, 1), impl.ErrTaken},
	{"the owner waits, and one twice", lockOf(3, 3, 1, 1), impl.ErrTaken},
	{"one waits for what nobody owns", lockOf(-1, 1), impl.ErrState},
	{"0 waits for what nobody owns", lockOf(-1, 0), impl.ErrState},
	{"all wait for what nobody owns", lockOf(-1, 0, 1, 2, 3, 4), impl.ErrState},
	{"the owner waits", lockOf(1, 1), impl.ErrState},
	{"0 waits for its own", lockOf(0, 0), impl.ErrState},
	{"the owner waits at first", lockOf(1, 1, 2), impl.ErrState},
	{"the owner waits at last", lockOf(1, 2, 1), impl.ErrState},
	{"all wait, and so the owner", lockOf(3, 0, 1, 2, 3, 4), impl.ErrState},
}

func TestQueueFault(t *testing.T) {
	for _, c := range rightQueues {
		wantCode(t, c.name, impl.QueueFault(c.q), impl.OK)
	}
	for _, c := range faultyQueues {
		wantCode(t, c.name, impl.QueueFault(c.q), c.want)
	}
}

func TestLockFault(t *testing.T) {
	for _, c := range rightLocks {
		wantCode(t, c.name, impl.LockFault(c.l), impl.OK)
	}
	for _, c := range faultyLocks {
		wantCode(t, c.name, impl.LockFault(c.l), c.want)
	}
}

var lockIds = []int64{lowest, -2, -1, 0, 1, 2, 3, 4, 5, 1 << 32, highest}

// A lock that has a fault is told ahead of whatever else is wrong, but for the
// queue that is told ahead of it.
func TestTheFaultOfALockIsAskedFirst(t *testing.T) {
	for _, c := range faultyLocks {
		for _, id := range lockIds {
			wantLock(t, "take of "+c.name, impl.TakeLock(c.l, id), lockDenied(c.want))
			wantLock(t, "pass of "+c.name, impl.PassLock(c.l, id), lockDenied(c.want))
		}
		for _, of := range rightQueues {
			wantLock(t, "wake one of "+of.name+" with "+c.name, impl.WakeOne(of.q, c.l), lockDenied(c.want))
			wantLock(t, "wake all of "+of.name+" with "+c.name, impl.WakeAll(of.q, c.l), lockDenied(c.want))
		}
	}
}

// A queue that has a fault is told ahead of whatever else is wrong, the lock
// among it.
func TestTheFaultOfAQueueIsAskedFirst(t *testing.T) {
	for _, c := range faultyQueues {
		for _, id := range lockIds {
			wantLock(t, "wait in "+c.name, impl.WaitQueue(c.q, id), lockDenied(c.want))
		}
		for _, of := range rightLocks {
			wantLock(t, "wake one of "+c.name+" with "+of.name, impl.WakeOne(c.q, of.l), lockDenied(c.want))
			wantLock(t, "wake all of "+c.name+" with "+of.name, impl.WakeAll(c.q, of.l), lockDenied(c.want))
		}
		for _, of := range faultyLocks {
			wantLock(t, "wake one of "+c.name+" with "+of.name, impl.WakeOne(c.q, of.l), lockDenied(c.want))
			wantLock(t, "wake all of "+c.name+" with "+of.name, impl.WakeAll(c.q, of.l), lockDenied(c.want))
		}
	}
}

// Who is no thread is told ahead of what the lock or the queue says of it.
func TestWhoIsNoThread(t *testing.T) {
	for _, id := range []int64{lowest, lowest + 1, -2, -1, 5, 6, 1 << 32, 1<<32 + 1, highest} {
		for _, c := range rightLocks {
			wantLock(t, "take of "+c.name, impl.TakeLock(c.l, id), lockDenied(impl.ErrRange))
			wantLock(t, "pass of "+c.name, impl.PassLock(c.l, id), lockDenied(impl.ErrRange))
		}
		for _, c := range rightQueues {
			wantLock(t, "wait in "+c.name, impl.WaitQueue(c.q, id), lockDenied(impl.ErrRange))
		}
	}
}

func TestTakeLock(t *testing.T) {
	cases := []struct {
		name string
		l    impl.Lock
		id   int64
		want impl.LockResult
	}{
		{"nobody's", nobodys(), 1, gotBy(1)},
		{"nobody's by the least one", nobodys(), 0, gotBy(0)},
		{"nobody's by the highest one", nobodys(), 4, gotBy(4)},
		{"nobody's with an empty queue", impl.Lock{Owner: -1, Queue: []int64{}}, 3, gotBy(3)},
		{"of one", lockOf(1), 2, heldAs(lockOf(1, 2))},
		{"of one by the least one", lockOf(1), 0, heldAs(lockOf(1, 0))},
		{"of the least one", lockOf(0), 4, heldAs(lockOf(0, 4))},
		{"of one with an empty queue", impl.Lock{Owner: 2, Queue: []int64{}}, 3, heldAs(lockOf(2, 3))},
		{"for which one waits", lockOf(1, 2), 0, heldAs(lockOf(1, 2, 0))},
		{"for which two wait", lockOf(1, 4, 0), 2, heldAs(lockOf(1, 4, 0, 2))},
		{"for which all but the last one wait", lockOf(2, 4, 0, 3), 1, heldAs(lockOf(2, 4, 0, 3, 1))},
		{"its owner again", lockOf(1), 1, lockDenied(impl.ErrTaken)},
		{"the least one again", lockOf(0), 0, lockDenied(impl.ErrTaken)},
		{"the highest one again", lockOf(4), 4, lockDenied(impl.ErrTaken)},
		{"its owner again, and one waits", lockOf(1, 2), 1, lockDenied(impl.ErrTaken)},
		{"its owner again, and all others wait", lockOf(0, 1, 2, 3, 4), 0, lockDenied(impl.ErrTaken)},
		{"one that waits alone", lockOf(1, 2), 2, lockDenied(impl.ErrTaken)},
		{"the first one that waits", lockOf(1, 2, 0), 2, lockDenied(impl.ErrTaken)},
		{"the last one that waits", lockOf(1, 2, 0), 0, lockDenied(impl.ErrTaken)},
		{"one that waits in the middle", lockOf(1, 2, 0, 4), 0, lockDenied(impl.ErrTaken)},
		{"the last one of all others that wait", lockOf(0, 1, 2, 3, 4), 4, lockDenied(impl.ErrTaken)},
	}
	for _, c := range cases {
		wantLock(t, c.name, impl.TakeLock(c.l, c.id), c.want)
	}
}

func TestPassLock(t *testing.T) {
	toNobody := heldAs(nobodys())
	cases := []struct {
		name string
		l    impl.Lock
		id   int64
		want impl.LockResult
	}{
		{"as the document tells", lockOf(1, 2, 0), 1, passedTo(2, 0)},
		{"to nobody", lockOf(1), 1, toNobody},
		{"to nobody by the least one", impl.Lock{}, 0, toNobody},
		{"to nobody by the highest one", lockOf(4), 4, toNobody},
		{"to nobody, with an empty queue", impl.Lock{Owner: 2, Queue: []int64{}}, 2, toNobody},
		{"to one that waits alone", lockOf(1, 3), 1, passedTo(3)},
		{"to the least one", lockOf(1, 0), 1, passedTo(0)},
		{"to the least one of more", lockOf(4, 0, 3), 4, passedTo(0, 3)},
		{"to the first one, though it is not the least", lockOf(1, 4, 0), 1, passedTo(4, 0)},
		{"to one of all others", lockOf(0, 1, 2, 3, 4), 0, passedTo(1, 2, 3, 4)},
		{"to one of all others in another order", lockOf(2, 4, 0, 3, 1), 2, passedTo(4, 0, 3, 1)},
		{"nobody's", nobodys(), 1, lockDenied(impl.ErrOwner)},
		{"nobody's by the least one", nobodys(), 0, lockDenied(impl.ErrOwner)},
		{"one that does not own it", lockOf(1), 2, lockDenied(impl.ErrOwner)},
		{"one that does not own it, of the least one", lockOf(0), 4, lockDenied(impl.ErrOwner)},
		{"the first one that waits", lockOf(1, 2, 0), 2, lockDenied(impl.ErrOwner)},
		{"the last one that waits", lockOf(1, 2, 0), 0, lockDenied(impl.ErrOwner)},
		{"one that neither owns it nor waits", lockOf(1, 2, 0), 3, lockDenied(impl.ErrOwner)},
		{"one of all others", lockOf(0, 1, 2, 3, 4), 4, lockDenied(impl.ErrOwner)},
	}
	for _, c := range cases {
		wantLock(t, c.name, impl.PassLock(c.l, c.id), c.want)
	}
}

// The lock goes from one to the other until the last owner passes it on to nobody.
func TestALockPassedOnToTheLast(t *testing.T) {
	l := lockOf(2, 4, 0, 3, 1)
	for _, owner := range []int64{2, 4, 0, 3, 1} {
		if l.Owner != owner {
			t.Fatal("owner", l, "want", owner)
		}
		l = impl.PassLock(l, owner).Lock
	}
	if !sameLock(l, nobodys()) {
		t.Error("at last", l)
	}
}

func TestWaitQueue(t *testing.T) {
	cases := []struct {
		name string
		q    []int64
		id   int64
		want impl.LockResult
	}{
		{"in nil", nil, 0, queued(0)},
		{"in an empty one", []int64{}, 4, queued(4)},
		{"behind one", []int64{3}, 1, queued(3, 1)},
		{"behind one that is less", []int64{1}, 3, queued(1, 3)},
		{"behind two", []int64{3, 1}, 0, queued(3, 1, 0)},
		{"the last one that there may be", []int64{4, 2, 0, 3}, 1, queued(4, 2, 0, 3, 1)},
		{"one that is there alone", []int64{3}, 3, lockDenied(impl.ErrTaken)},
		{"the first one", []int64{0, 4, 2}, 0, lockDenied(impl.ErrTaken)},
		{"one in the middle", []int64{0, 4, 2}, 4, lockDenied(impl.ErrTaken)},
		{"the last one", []int64{0, 4, 2}, 2, lockDenied(impl.ErrTaken)},
		{"the first one of all", []int64{0, 1, 2, 3, 4}, 0, lockDenied(impl.ErrTaken)},
		{"the last one of all", []int64{0, 1, 2, 3, 4}, 4, lockDenied(impl.ErrTaken)},
	}
	for _, c := range cases {
		wantLock(t, c.name, impl.WaitQueue(c.q, c.id), c.want)
	}
}

func TestWakeOne(t *testing.T) {
	cases := []struct {
		name string
		q    []int64
		l    impl.Lock
		want impl.LockResult
	}{
		{"nil, and nobody's", nil, nobodys(), lockDenied(impl.ErrNone)},
		{"empty, and nobody's", []int64{}, nobodys(), lockDenied(impl.ErrNone)},
		{"empty, and one's", nil, lockOf(1, 2), lockDenied(impl.ErrNone)},
		{"one gets it", []int64{3}, nobodys(), woken(true, 3, lockOf(3))},
		{"the least one gets it", []int64{0}, nobodys(), woken(true, 0, lockOf(0))},
		{"the first one gets it", []int64{3, 1}, nobodys(), woken(true, 3, lockOf(3), 1)},
		{"the first one of all gets it", []int64{4, 2, 0, 3, 1}, nobodys(), woken(true, 4, lockOf(4), 2, 0, 3, 1)},
		{"one does not get it", []int64{3}, lockOf(1), woken(false, 3, lockOf(1, 3))},
		{"the least one does not get it", []int64{0}, lockOf(1), woken(false, 0, lockOf(1, 0))},
		{"the first one does not get it", []int64{3, 2}, lockOf(1), woken(false, 3, lockOf(1, 3), 2)},
		{"the first one is behind all that wait", []int64{3, 2}, lockOf(1, 4, 0), woken(false, 3, lockOf(1, 4, 0, 3), 2)},
		{"the last of all that there are", []int64{1}, lockOf(2, 4, 0, 3), woken(false, 1, lockOf(2, 4, 0, 3, 1))},
		{"the second one owns it", []int64{3, 1}, lockOf(1), woken(false, 3, lockOf(1, 3), 1)},
		{"the second one waits for it", []int64{3, 2}, lockOf(1, 2), woken(false, 3, lockOf(1, 2, 3), 2)},
		{"all others own it or wait for it", []int64{3, 1, 4, 0, 2}, lockOf(1, 2, 0, 4), woken(false, 3, lockOf(1, 2, 0, 4, 3), 1, 4, 0, 2)},
		{"the first one owns it", []int64{1, 3}, lockOf(1), lockDenied(impl.ErrTaken)},
		{"one alone owns it", []int64{0}, lockOf(0), lockDenied(impl.ErrTaken)},
		{"the first one waits for it", []int64{2, 3}, lockOf(1, 2), lockDenied(impl.ErrTaken)},
		{"the first one is the last that waits for it", []int64{2, 3}, lockOf(1, 4, 0, 2), lockDenied(impl.ErrTaken)},
		{"all, and all others wait", []int64{0, 1, 2, 3, 4}, lockOf(4, 3, 2, 1, 0), lockDenied(impl.ErrTaken)},
	}
	for _, c := range cases {
		wantLock(t, c.name, impl.WakeOne(c.q, c.l), c.want)
	}
}

func TestWakeAll(t *testing.T) {
	cases := []struct {
		name string
		q    []int64
		l    impl.Lock
		want impl.LockResult
	}{
		{"nil, and nobody's", nil, nobodys(), heldAs(nobodys())},
		{"empty, and nobody's", []int64{}, nobodys(), heldAs(nobodys())},
		{"empty, and of the least one", nil, lockOf(0), heldAs(lockOf(0))},
		{"empty, and one waits", []int64{}, lockOf(1, 2), heldAs(lockOf(1, 2))},
		{"empty, and all others wait", nil, lockOf(2, 4, 0, 3, 1), heldAs(lockOf(2, 4, 0, 3, 1))},
		{"one gets it", []int64{3}, nobodys(), woken(true, 3, lockOf(3))},
		{"the least one gets it", []int64{0}, nobodys(), woken(true, 0, lockOf(0))},
		{"the first one gets it", []int64{3, 1}, nobodys(), woken(true, 3, lockOf(3, 1))},
		{"the first one gets it, and the least one waits", []int64{3, 0, 1}, nobodys(), woken(true, 3, lockOf(3, 0, 1))},
		{"the first one of all gets it", []int64{4, 2, 0, 3, 1}, nobodys(), woken(true, 4, lockOf(4, 2, 0, 3, 1))},
		{"one does not get it", []int64{3}, lockOf(1), heldAs(lockOf(1, 3))},
		{"none gets it", []int64{3, 0}, lockOf(1), heldAs(lockOf(1, 3, 0))},
		{"none gets it, and all are behind those that wait", []int64{3, 2}, lockOf(1, 4, 0), heldAs(lockOf(1, 4, 0, 3, 2))},
		{"none of all others gets it", []int64{4, 0, 3, 1}, lockOf(2), heldAs(lockOf(2, 4, 0, 3, 1))},
		{"the first one owns it", []int64{1, 3}, lockOf(1), lockDenied(impl.ErrTaken)},
		{"the second one owns it", []int64{3, 1}, lockOf(1), lockDenied(impl.ErrTaken)},
		{"the last one owns it", []int64{3, 0, 2, 1}, lockOf(1), lockDenied(impl.ErrTaken)},
		{"one alone owns it", []int64{0}, lockOf(0), lockDenied(impl.ErrTaken)},
		{"the first one waits for it", []int64{2, 3}, lockOf(1, 2), lockDenied(impl.ErrTaken)},
		{"the second one waits for it", []int64{3, 2}, lockOf(1, 2), lockDenied(impl.ErrTaken)},
		{"the last one waits for it", []int64{3, 0, 2}, lockOf(1, 4, 2), lockDenied(impl.ErrTaken)},
		{"all, and one owns it", []int64{0, 1, 2, 3, 4}, lockOf(4), lockDenied(impl.ErrTaken)},
		{"all, and all others wait", []int64{0, 1, 2, 3, 4}, lockOf(4, 3, 2, 1, 0), lockDenied(impl.ErrTaken)},
	}
	for _, c := range cases {
		wantLock(t, c.name, impl.WakeAll(c.q, c.l), c.want)
	}
}

func TestSameLocks(t *testing.T) {
	cases := []struct {
		name string
		a, b impl.Lock
		want bool
	}{
		{"zero and zero", impl.Lock{}, impl.Lock{}, true},
		{"nil and empty", impl.Lock{}, impl.Lock{Queue: []int64{}}, true},
		{"nobody's", nobodys(), nobodys(), true},
		{"nobody's and one's", nobodys(), lockOf(0), false},
		{"of one and of another one", lockOf(1), lockOf(2), false},
		{"the same that wait", lockOf(1, 2, 0), lockOf(1, 2, 0), true},
		{"the same that wait, of another one", lockOf(1, 2, 0), lockOf(3, 2, 0), false},
		{"another order", lockOf(1, 2, 0), lockOf(1, 0, 2), false},
		{"another first one", lockOf(1, 2, 0), lockOf(1, 3, 0), false},
		{"another last one", lockOf(1, 2, 3, 4), lockOf(1, 2, 3, 0), false},
		{"one and none", lockOf(1, 0), lockOf(1), false},
		{"one more", lockOf(1, 2), lockOf(1, 2, 0), false},
		{"one twice and once", lockOf(1, 2, 2), lockOf(1, 2), false},
		{"faults that are the same", lockOf(lowest, highest, highest), lockOf(lowest, highest, highest), true},
		{"faults that are not the same", lockOf(lowest, highest, highest), lockOf(lowest, highest, lowest), false},
		{"faults of two owners", lockOf(lowest), lockOf(highest), false},
		{"owners that are the same in 32 bits", lockOf(1), lockOf(1<<32 + 1), false},
		{"too many that are the same", lockOf(1, make([]int64, 1000)...), lockOf(1, make([]int64, 1000)...), true},
		{"too many, and one more", lockOf(1, make([]int64, 1000)...), lockOf(1, make([]int64, 1001)...), false},
	}
	for _, c := range cases {
		if got, back := impl.SameLocks(c.a, c.b), impl.SameLocks(c.b, c.a); got != c.want || back != c.want {
			t.Errorf("%s: %v and the other way %v, want %v", c.name, got, back, c.want)
		}
	}
}
