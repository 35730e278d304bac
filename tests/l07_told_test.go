package tests

import (
	"slices"

	"loop.example/g00789/impl"
)

// toldOpFault and those below are what the document says of threads, read word
// for word and apart from the program.
func toldOpFault(o impl.Op) int64 {
	lock, cond := false, false
	switch o.Kind {
	case 1:
	case 2, 3:
		lock = true
	case 4, 5, 6:
		lock, cond = true, true
	default:
		return impl.ErrForm
	}
	if !lock && o.Lock != 0 || !cond && o.Cond != 0 {
		return impl.ErrForm
	}
	if lock && !among(o.Lock, 0, 1) || cond && !among(o.Cond, 0, 1) {
		return impl.ErrRange
	}
	return impl.OK
}

func toldPlansFault(plans []impl.Plan) int64 {
	if !among(int64(len(plans)), 1, 5) {
		return impl.ErrMany
	}
	for _, p := range plans {
		if !among(p.Tickets, 1, 10) {
			return impl.ErrRange
		}
		if len(p.Ops) > 8 {
			return impl.ErrMany
		}
		for _, o := range p.Ops {
			if code := toldOpFault(o); code != impl.OK {
				return code
			}
		}
	}
	return impl.OK
}

func toldLibAtFirst(plans []impl.Plan) impl.Lib {
	l := quietLib(impl.Sched{})
	for id, p := range plans {
		l.Threads = append(l.Threads, impl.Thread{Tickets: p.Tickets, State: 1})
		l.Sched = toldJoin(l.Sched, int64(id), p.Tickets, 0).Sched
	}
	return l
}

func toldOpAt(plans []impl.Plan, l impl.Lib, id int64) impl.Op {
	ops := plans[id].Ops
	if pc := l.Threads[id].Pc; pc < int64(len(ops)) {
		return ops[pc]
	}
	return impl.Op{}
}

// toldStep turns l, which is the teller's own.
func toldStep(plans []impl.Plan, l *impl.Lib) impl.LibNote {
	if len(l.Sched.List) == 0 {
		return impl.LibNote{Id: -1}
	}
	picked := toldPick(l.Sched)
	l.Sched = picked.Sched
	id := picked.Id
	o := toldOpAt(plans, *l, id)
	if o.Kind != 0 {
		l.Threads[id].Pc++
	}
	note := impl.LibNote{Id: id, Kind: o.Kind}
	switch o.Kind {
	case 0:
		toldEnd(l, id)
	case 2:
		note.Code = toldDoLock(l, id, o.Lock)
	case 3:
		note.Code = toldDoUnlock(l, id, o.Lock)
	case 4:
		note.Code = toldDoWait(l, id, o.Lock, o.Cond)
	case 5:
		toldDoSignal(l, o.Cond)
	case 6:
		for len(l.Conds[o.Cond]) > 0 {
			toldDoSignal(l, o.Cond)
		}
	}
	return note
}

func toldLeaves(l *impl.Lib, id int64, state int64, lock int64) {
	left := toldLeave(l.Sched, id)
	l.Sched = left.Sched
	l.Threads[id].State, l.Threads[id].Rest, l.Threads[id].Lock = state, left.Rest, lock
}

// toldComesBack is asked of NoThread, too, which is nobody.
func toldComesBack(l *impl.Lib, id int64) {
	if id == -1 {
		return
	}
	l.Sched = toldJoin(l.Sched, id, l.Threads[id].Tickets, l.Threads[id].Rest).Sched
	l.Threads[id].State, l.Threads[id].Rest, l.Threads[id].Lock = 1, 0, 0
}

func toldEnd(l *impl.Lib, id int64) {
	nexts := []int64{-1, -1}
	for lock := range l.Locks {
		if l.Locks[lock].Owner == id {
			r := toldPass(l.Locks[lock], id)
			l.Locks[lock], nexts[lock] = r.Lock, r.Next
		}
	}
	toldLeaves(l, id, 4, 0)
	toldComesBack(l, nexts[0])
	toldComesBack(l, nexts[1])
}

func toldDoLock(l *impl.Lib, id int64, lock int64) int64 {
	r := toldTake(l.Locks[lock], id)
	if r.Code != impl.OK {
		return r.Code
	}
	l.Locks[lock] = r.Lock
	if !r.Got {
		toldLeaves(l, id, 2, lock)
	}
	return impl.OK
}

func toldDoUnlock(l *impl.Lib, id int64, lock int64) int64 {
	r := toldPass(l.Locks[lock], id)
	if r.Code != impl.OK {
		return r.Code
	}
	l.Locks[lock] = r.Lock
	toldComesBack(l, r.Next)
	return impl.OK
}

func toldDoWait(l *impl.Lib, id int64, lock int64, cond int64) int64 {
	if l.Locks[lock].Owner != id {
		return impl.ErrOwner
	}
	l.Conds[cond] = toldWait(l.Conds[cond], id).Queue
	r := toldPass(l.Locks[lock], id)
	l.Locks[lock] = r.Lock
	toldLeaves(l, id, 3, lock)
	toldComesBack(l, r.Next)
	return impl.OK
}

func toldDoSignal(l *impl.Lib, cond int64) {
	if len(l.Conds[cond]) == 0 {
		return
	}
	id := l.Conds[cond][0]
	l.Conds[cond] = l.Conds[cond][1:]
	lock := l.Threads[id].Lock
	r := toldTake(l.Locks[lock], id)
	l.Locks[lock] = r.Lock
	if r.Got {
		toldComesBack(l, id)
	} else {
		l.Threads[id].State = 2
	}
}

func toldRunLib(plans []impl.Plan, steps int64) impl.LibResult {
	code := toldPlansFault(plans)
	if code == impl.OK && !among(steps, 0, 300) {
		code = impl.ErrRange
	}
	if code != impl.OK {
		return libDenied(code)
	}
	r := impl.LibResult{Lib: toldLibAtFirst(plans)}
	for range steps {
		r.Notes = append(r.Notes, toldStep(plans, &r.Lib))
	}
	return r
}

func toldHeld(l impl.Lib, id int64) impl.IntsResult {
	if !among(id, 0, 4) {
		return impl.IntsResult{Code: impl.ErrRange}
	}
	var r impl.IntsResult
	for place := range l.Locks {
		if l.Locks[place].Owner == id {
			r.List = append(r.List, int64(place))
		}
	}
	return r
}

func ownLib(l impl.Lib) impl.Lib {
	own := impl.Lib{Sched: impl.Sched{Base: l.Sched.Base, List: slices.Clone(l.Sched.List)}, Threads: slices.Clone(l.Threads)}
	for _, lock := range l.Locks {
		own.Locks = append(own.Locks, lockOf(lock.Owner, slices.Clone(lock.Queue)...))
	}
	for _, cond := range l.Conds {
		own.Conds = append(own.Conds, slices.Clone(cond))
	}
	return own
}
