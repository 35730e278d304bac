package tests

import (
	"slices"

	"loop.example/g00789/impl"
)

// toldWhoActs and those below are what the document says of one that keeps to its
// time, read word for word and apart from the program.
func toldWhoActs(k impl.Kernel) impl.IntResult {
	if code := toldKernelFault(k); code != impl.OK {
		return impl.IntResult{Code: code}
	}
	if k.Tick%9 != 0 {
		return impl.IntResult{Value: k.Run}
	}
	owner := k.Owners[(k.Tick/9)%int64(len(k.Owners))]
	if owner != impl.Free && k.Accounts[owner].Debt == 0 {
		return impl.IntResult{Value: owner}
	}
	return impl.IntResult{Value: -1}
}

func toldHonestAct(k impl.Kernel, l impl.Lib) impl.IntResult {
	code := toldKernelFault(k)
	switch {
	case code != impl.OK:
		return impl.IntResult{Code: code}
	case k.Tick%9 >= 6, len(l.Sched.List) == 0:
		return impl.IntResult{Value: 2}
	}
	return impl.IntResult{Value: 1}
}

func toldStackFault(slots int64, plans []impl.Plan, events []impl.Event) int64 {
	if !among(slots, 1, 12) {
		return impl.ErrMany
	}
	if code := toldPlansFault(plans); code != impl.OK {
		return code
	}
	if len(events) > 400 {
		return impl.ErrMany
	}
	return impl.OK
}

// toldStack tells the acts, too, by which each event was met, and how many LibNotes
// there were when Honest was destroyed last.
func toldStack(slots int64, plans []impl.Plan, events []impl.Event) (r impl.StackResult, met []impl.Event, destroyed int) {
	if code := toldStackFault(slots, plans, events); code != impl.OK {
		return stackDenied(code), nil, 0
	}
	r.Kernel = kernelOf(0, nobody, repeat(impl.Free, int(slots)))
	r.Lib = toldLibAtFirst(plans)
	for _, e := range events {
		code := toldEventFault(e)
		var did impl.KernelResult
		switch {
		case code != impl.OK:
			did.Code = code
		case e.Kind == 2:
			did = toldDoCall(r.Kernel, e.Call)
			if did.Code == impl.OK && e.Call.Kind == 2 && e.Call.Env == 0 {
				destroyed = len(r.LibNotes)
			}
		default:
			if toldWhoActs(r.Kernel).Value == 0 {
				e.Act = impl.Act{Kind: toldHonestAct(r.Kernel, r.Lib).Value}
				if e.Act.Kind == 1 {
					r.LibNotes = append(r.LibNotes, toldStep(plans, &r.Lib))
				}
			}
			did = toldDoTick(r.Kernel, e.Act)
		}
		met = append(met, e)
		r.Codes = append(r.Codes, did.Code)
		if did.Code == impl.OK {
			r.Kernel = did.Kernel
			r.Notes = append(r.Notes, did.Notes...)
		}
	}
	return r, met, destroyed
}

func toldIsHonest(r impl.StackResult, destroyed int) bool {
	if r.Code != impl.OK {
		return false
	}
	if slices.ContainsFunc(r.Notes, func(n impl.Note) bool { return n.Env == 0 && (n.Kind == 6 || n.Kind == 7) }) {
		return false
	}
	return r.Kernel.Accounts[0].Debt == 0 && r.Kernel.Accounts[0].Excess == 0 &&
		r.Kernel.Accounts[0].Used == int64(len(r.LibNotes)-destroyed)
}

func toldPicksIn(r impl.StackResult) impl.IntResult {
	picks := impl.IntResult{Code: r.Code}
	for _, n := range r.LibNotes {
		if n.Id != -1 {
			picks.Value++
		}
	}
	return picks
}

func stackDenied(code int64) impl.StackResult {
	return impl.StackResult{Code: code}
}

func sameStacks(a impl.StackResult, b impl.StackResult) bool {
	return a.Code == b.Code && sameFields(a.Kernel, b.Kernel) && slices.Equal(a.Codes, b.Codes) && slices.Equal(a.Notes, b.Notes) &&
		sameLib(a.Lib, b.Lib) && slices.Equal(a.LibNotes, b.LibNotes)
}
