package tests

import (
	"slices"

	"loop.example/g00789/impl"
)

// toldNotes and those below are what the document says of what each one gets, read
// word for word and apart from the program.
func toldNotes(notes []impl.Note, env int64, kinds ...int64) int64 {
	many := int64(0)
	for _, n := range notes {
		if n.Env == env && slices.Contains(kinds, n.Kind) {
			many++
		}
	}
	return many
}

func toldAuditFault(slots int64, events []impl.Event, env int64) int64 {
	switch {
	case !among(slots, 1, 12):
		return impl.ErrMany
	case len(events) > 400:
		return impl.ErrMany
	case !among(env, 0, 3):
		return impl.ErrRange
	}
	return impl.OK
}

// eachTold calls see with the kernel ahead of each event, and with the code that
// this one has then.
func eachTold(slots int64, events []impl.Event, see func(k impl.Kernel, e impl.Event, code int64)) {
	k := kernelOf(0, -1, repeat(impl.Free, int(slots)))
	for _, e := range events {
		met := toldMeet(k, e)
		see(k, e, met.Code)
		if met.Code == impl.OK {
			k = met.Kernel
		}
	}
}

func toldWindows(slots int64, events []impl.Event, env int64) impl.IntResult {
	r := impl.IntResult{Code: toldAuditFault(slots, events, env)}
	if r.Code != impl.OK {
		return r
	}
	eachTold(slots, events, func(k impl.Kernel, e impl.Event, code int64) {
		slot := (k.Tick / 9) % int64(len(k.Owners))
		if e.Kind == 1 && code == impl.OK && k.Tick%9 == 0 && k.Owners[slot] == env {
			r.Value++
		}
	})
	return r
}

func toldRuns(slots int64, events []impl.Event, env int64) impl.IntsResult {
	r := impl.IntsResult{Code: toldAuditFault(slots, events, env)}
	if r.Code != impl.OK {
		return r
	}
	eachTold(slots, events, func(k impl.Kernel, e impl.Event, code int64) {
		if e.Kind == 1 && code == impl.OK && toldWhoActs(k).Value == env {
			r.List = append(r.List, k.Tick)
		}
	})
	return r
}

func toldBalanced(slots int64, events []impl.Event, env int64) bool {
	if toldAuditFault(slots, events, env) != impl.OK {
		return false
	}
	r := toldRun(slots, events)
	if toldWindows(slots, events, env).Value != toldNotes(r.Notes, env, impl.NoteRun, impl.NoteSkip) {
		return false
	}
	for at, e := range events {
		if e == callOf(impl.CallDestroy, env, 0, 0) && r.Codes[at] == impl.OK {
			return true
		}
	}
	return r.Kernel.Accounts[env].Debt == toldNotes(r.Notes, env, impl.NoteForced)-toldNotes(r.Notes, env, impl.NoteSkip)
}

func toldMuted(slots int64, events []impl.Event, env int64, kind int64) impl.MutedResult {
	if code := toldAuditFault(slots, events, env); code != impl.OK {
		return impl.MutedResult{Code: code}
	}
	if !among(kind, 1, 2) {
		return impl.MutedResult{Code: impl.ErrForm}
	}
	var r impl.MutedResult
	k := kernelOf(0, -1, repeat(impl.Free, int(slots)))
	for _, e := range events {
		if e.Kind == 1 && toldEventFault(e) == impl.OK && toldWhoActs(k).Value != env {
			e = tickOf(kind, 0)
		}
		r.Events = append(r.Events, e)
		if met := toldMeet(k, e); met.Code == impl.OK {
			k = met.Kernel
		}
	}
	return r
}

// toldGap is how far what one got is from what its tickets say, and how far it may be.
func toldGap(s impl.Sched, one impl.Ready, ids []int64) (far int64, most int64) {
	all, many := int64(0), int64(len(s.List))
	for _, other := range s.List {
		all += other.Tickets
	}
	far = toldCount(ids, one.Id)*all - int64(len(ids))*one.Tickets
	if far < 0 {
		far = -far
	}
	if many == 1 {
		return far, all
	}
	return far, all + (many-2)*one.Tickets
}

func toldFair(s impl.Sched, n int64) bool {
	picks := toldPicks(s, n)
	return picks.Code == impl.OK && !slices.ContainsFunc(s.List, func(one impl.Ready) bool {
		far, most := toldGap(s, one, picks.Ids)
		return far > most
	})
}

func toldStepsFault(plans []impl.Plan, steps int64) int64 {
	if code := toldPlansFault(plans); code != impl.OK {
		return code
	}
	if !among(steps, 0, 300) {
		return impl.ErrRange
	}
	return impl.OK
}

// toldWaits tells of each step who waits in it: who is in the schedule ahead of it,
// and is not picked.
func toldWaits(plans []impl.Plan, steps int64) (waits [][5]bool) {
	l := toldLibAtFirst(plans)
	for range steps {
		var waiting [5]bool
		for _, one := range l.Sched.List {
			waiting[one.Id] = true
		}
		if note := toldStep(plans, &l); note.Id != -1 {
			waiting[note.Id] = false
		}
		waits = append(waits, waiting)
	}
	return waits
}

func toldServed(plans []impl.Plan, steps int64) bool {
	if toldStepsFault(plans, steps) != impl.OK {
		return false
	}
	waits := toldWaits(plans, steps)
	for id := range plans {
		for from := 0; from+45 <= len(waits); from++ {
			if !slices.ContainsFunc(waits[from:from+45], func(waiting [5]bool) bool { return !waiting[id] }) {
				return false
			}
		}
	}
	return true
}

// toldPlaces are all places in which one stands: "ready", "lock 0" and the like.
func toldPlaces(l impl.Lib, id int64) (places []string) {
	if toldPlace(l.Sched, id) >= 0 {
		places = append(places, "ready")
	}
	for at, lock := range l.Locks {
		if slices.Contains(lock.Queue, id) {
			places = append(places, []string{"lock 0", "lock 1"}[at])
		}
	}
	for at, cond := range l.Conds {
		if slices.Contains(cond, id) {
			places = append(places, []string{"cond 0", "cond 1"}[at])
		}
	}
	return places
}

func toldIsInPlace(l impl.Lib, id int64) bool {
	places, one := toldPlaces(l, id), l.Threads[id]
	switch one.State {
	case impl.StReady:
		return slices.Equal(places, []string{"ready"})
	case impl.StBlocked:
		return slices.Equal(places, []string{[]string{"lock 0", "lock 1"}[one.Lock]})
	case impl.StWaiting:
		return slices.Equal(places, []string{"cond 0"}) || slices.Equal(places, []string{"cond 1"})
	case impl.StDone:
		return len(places) == 0 && len(toldHeld(l, id).List) == 0
	}
	return false
}

func toldKeepsLaws(l impl.Lib) bool {
	if toldSchedFault(l.Sched) != impl.OK {
		return false
	}
	for _, lock := range l.Locks {
		if toldLockFault(lock) != impl.OK {
			return false
		}
	}
	for _, cond := range l.Conds {
		if toldQueueFault(cond) != impl.OK {
			return false
		}
	}
	for id := range l.Threads {
		if !toldIsInPlace(l, int64(id)) {
			return false
		}
	}
	return true
}

func toldLawful(plans []impl.Plan, steps int64) bool {
	if toldStepsFault(plans, steps) != impl.OK {
		return false
	}
	l := toldLibAtFirst(plans)
	lawful := toldKeepsLaws(l)
	for range steps {
		toldStep(plans, &l)
		lawful = lawful && toldKeepsLaws(l)
	}
	return lawful
}
