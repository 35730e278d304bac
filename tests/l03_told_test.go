package tests

import (
	"slices"

	"loop.example/g00789/impl"
)

func among(number int64, low int64, high int64) bool {
	return low <= number && number <= high
}

// toldKernelFault and those below are what the document says of kernels, read
// word for word and apart from the program.
func toldKernelFault(k impl.Kernel) int64 {
	if code := toldFault(k.Owners); code != impl.OK {
		return code
	}
	if len(k.Alive) != 4 || len(k.Accounts) != 4 {
		return impl.ErrMany
	}
	for _, a := range k.Accounts {
		if code := toldAccountFault(a); code != impl.OK {
			return code
		}
	}
	if !among(k.Tick, 0, 100000) || !among(k.Run, -1, 3) {
		return impl.ErrRange
	}
	lives := func(env int64) bool { return env == -1 || k.Alive[env] }
	if !lives(k.Run) || slices.ContainsFunc(k.Owners, func(owner int64) bool { return !lives(owner) }) {
		return impl.ErrState
	}
	if k.Run != -1 && k.Tick%9 == 0 {
		return impl.ErrState
	}
	for env := range int64(4) {
		if !lives(env) && k.Accounts[env] != accountOf(0, 0, 0, 0) {
			return impl.ErrState
		}
	}
	return impl.OK
}

func toldCallFault(c impl.Call) int64 {
	slot, to := false, false
	switch c.Kind {
	case 1, 2:
	case 3, 4:
		slot = true
	case 5:
		slot, to = true, true
	default:
		return impl.ErrForm
	}
	if !slot && c.Slot != 0 || !to && c.To != 0 {
		return impl.ErrForm
	}
	if !among(c.Env, 0, 3) || to && !among(c.To, 0, 3) || slot && !among(c.Slot, 0, 11) {
		return impl.ErrRange
	}
	return impl.OK
}

func toldEventFault(e impl.Event) int64 {
	switch {
	case e.Kind == 2 && e.Act == impl.Act{}:
		return toldCallFault(e.Call)
	case e.Kind != 1 || e.Call != impl.Call{}:
		return impl.ErrForm
	case e.Act.Kind == 1 && e.Act.To == 0, e.Act.Kind == 2 && e.Act.To == 0:
		return impl.OK
	case e.Act.Kind == 3 && among(e.Act.To, 0, 3):
		return impl.OK
	case e.Act.Kind == 3:
		return impl.ErrRange
	}
	return impl.ErrForm
}

func toldDoCall(k impl.Kernel, c impl.Call) impl.KernelResult {
	for _, code := range []int64{toldKernelFault(k), toldCallFault(c)} {
		if code != impl.OK {
			return impl.KernelResult{Code: code}
		}
	}
	k = cloneKernel(k)
	if c.Kind == 1 {
		if k.Alive[c.Env] {
			return impl.KernelResult{Code: impl.ErrTaken}
		}
		k.Alive[c.Env] = true
		return impl.KernelResult{Kernel: k}
	}
	if !k.Alive[c.Env] || c.Kind == 5 && !k.Alive[c.To] {
		return impl.KernelResult{Code: impl.ErrNone}
	}
	name := []string{2: "drop", 3: "take", 4: "free", 5: "move"}[c.Kind]
	code, owners := told(callCase{call: name, owners: k.Owners, env: c.Env, slot: c.Slot, to: c.To})
	if code != impl.OK {
		return impl.KernelResult{Code: code}
	}
	k.Owners = owners
	if c.Kind == 2 {
		k.Alive[c.Env], k.Accounts[c.Env] = false, impl.Account{}
		if k.Run == c.Env {
			k.Run = -1
		}
	}
	return impl.KernelResult{Kernel: k}
}

func toldDoTick(k impl.Kernel, a impl.Act) impl.KernelResult {
	for _, code := range []int64{toldKernelFault(k), toldEventFault(impl.Event{Kind: 1, Act: a})} {
		if code != impl.OK {
			return impl.KernelResult{Code: code}
		}
	}
	if k.Tick == 100000 {
		return impl.KernelResult{Code: impl.ErrFull}
	}
	k = cloneKernel(k)
	var notes []impl.Note
	say := func(env int64, kind int64) { notes = append(notes, impl.Note{Tick: k.Tick, Env: env, Kind: kind}) }
	account := func(call string, env int64) impl.AccountResult {
		r := toldAccount(call, k.Accounts[env])
		if r.Code == impl.OK {
			k.Accounts[env] = r.Account
		}
		return r
	}
	phase := k.Tick % 9
	if phase == 0 {
		owner := k.Owners[(k.Tick/9)%int64(len(k.Owners))]
		switch {
		case owner == impl.Free:
			say(-1, impl.NoteIdle)
		case k.Accounts[owner].Debt > 0:
			account("skip", owner)
			say(owner, impl.NoteSkip)
		default:
			k.Run = owner
			say(owner, impl.NoteRun)
		}
	}
	switch {
	case k.Run == -1:
	case a.Kind == impl.ActReturn:
		say(k.Run, impl.NoteReturn)
		k.Run = -1
	case a.Kind == impl.ActYield && phase < 6 && k.Alive[a.To] && a.To != k.Run:
		k.Run = a.To
		say(a.To, impl.NoteYield)
		account("give", a.To)
	case phase >= 6:
		account("late", k.Run)
	default:
		account("use", k.Run)
	}
	if phase == 8 && k.Run != -1 {
		if account("punish", k.Run).Dropped {
			say(k.Run, impl.NoteDropped)
		} else {
			say(k.Run, impl.NoteForced)
		}
		k.Run = -1
	}
	k.Tick++
	return impl.KernelResult{Kernel: k, Notes: notes}
}

func toldMeet(k impl.Kernel, e impl.Event) impl.KernelResult {
	if code := toldEventFault(e); code != impl.OK {
		return impl.KernelResult{Code: code}
	}
	if e.Kind == 1 {
		return toldDoTick(k, e.Act)
	}
	return toldDoCall(k, e.Call)
}

func toldRun(slots int64, events []impl.Event) impl.RunResult {
	if !among(slots, 1, 12) || len(events) > 400 {
		return impl.RunResult{Code: impl.ErrMany}
	}
	run := impl.RunResult{Kernel: kernelOf(0, -1, repeat(impl.Free, int(slots)))}
	for _, e := range events {
		met := toldMeet(run.Kernel, e)
		run.Codes = append(run.Codes, met.Code)
		if met.Code == impl.OK {
			run.Kernel = met.Kernel
			run.Notes = append(run.Notes, met.Notes...)
		}
	}
	return run
}
