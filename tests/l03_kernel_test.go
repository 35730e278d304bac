package tests

import (
	"slices"
	"testing"

	"loop.example/g00789/impl"
)

const (
	nobody = impl.NoEnv
	most   = impl.MaxCount
)

// kernelOf has zero accounts; lives are those that are alive.
func kernelOf(tick int64, run int64, owners []int64, lives ...int64) impl.Kernel {
	k := impl.Kernel{
		Owners:   owners,
		Alive:    make([]bool, impl.MaxEnvs),
		Accounts: make([]impl.Account, impl.MaxEnvs),
		Tick:     tick,
		Run:      run,
	}
	for _, env := range lives {
		k.Alive[env] = true
	}
	return k
}

func cloneKernel(k impl.Kernel) impl.Kernel {
	k.Owners, k.Alive, k.Accounts = slices.Clone(k.Owners), slices.Clone(k.Alive), slices.Clone(k.Accounts)
	return k
}

func withAccount(k impl.Kernel, env int64, a impl.Account) impl.Kernel {
	k = cloneKernel(k)
	k.Accounts[env] = a
	return k
}

func tickOf(kind int64, to int64) impl.Event {
	return impl.Event{Kind: impl.EvTick, Act: impl.Act{Kind: kind, To: to}}
}

func callOf(kind, env, slot, to int64) impl.Event {
	return impl.Event{Kind: impl.EvCall, Call: impl.Call{Kind: kind, Env: env, Slot: slot, To: to}}
}

func noteOf(tick, env, kind int64) impl.Note {
	return impl.Note{Tick: tick, Env: env, Kind: kind}
}

// isBare tells that all is zero beside the code.
func isBare(r impl.KernelResult) bool {
	return isZeroKernel(r.Kernel) && len(r.Notes) == 0
}

func isZeroKernel(k impl.Kernel) bool {
	return len(k.Owners) == 0 && len(k.Alive) == 0 && len(k.Accounts) == 0 && k.Tick == 0 && k.Run == 0
}

// sameFields compares without the function of the program that does so.
func sameFields(a impl.Kernel, b impl.Kernel) bool {
	return slices.Equal(a.Owners, b.Owners) && slices.Equal(a.Alive, b.Alive) && slices.Equal(a.Accounts, b.Accounts) &&
		a.Tick == b.Tick && a.Run == b.Run
}

func TestNumbersOfKernels(t *testing.T) {
	got := []int64{
		impl.Quantum, impl.Grace, impl.Window, impl.MaxTick, impl.NoEnv, impl.ActWork, impl.ActReturn, impl.ActYield,
		impl.CallCreate, impl.CallDestroy, impl.CallTake, impl.CallFree, impl.CallMove, impl.EvTick, impl.EvCall,
		impl.NoteRun, impl.NoteSkip, impl.NoteIdle, impl.NoteYield, impl.NoteReturn, impl.NoteForced, impl.NoteDropped, impl.MaxEvents,
	}
	want := []int64{6, 3, 9, 100000, -1, 1, 2, 3, 1, 2, 3, 4, 5, 1, 2, 1, 2, 3, 4, 5, 6, 7, 400}
	if !slices.Equal(got, want) {
		t.Error("constants", got, "want", want)
	}
}

// sound is a kernel in which every kind of value stands: somebody runs, late in
// a window, another one is alive and owns nothing, a third one is not alive.
func sound() impl.Kernel {
	k := kernelOf(25, 0, []int64{0, 3, impl.Free, 0}, 0, 1, 3)
	k.Accounts[0] = accountOf(5, 6, 7, 2)
	k.Accounts[1] = accountOf(most, most, most, 3)
	return k
}

// turnedKernels are sound ones in which something is turned, with the code that
// is asked first.
var turnedKernels = []struct {
	name string
	turn func(k *impl.Kernel)
	want int64
}{
	{"sound", func(k *impl.Kernel) {}, impl.OK},
	{"nobody runs", func(k *impl.Kernel) { k.Run = nobody }, impl.OK},
	{"one that owns nothing runs", func(k *impl.Kernel) { k.Run = 1 }, impl.OK},
	{"the last one runs", func(k *impl.Kernel) { k.Run = 3 }, impl.OK},
	{"somebody runs at the phase 1", func(k *impl.Kernel) { k.Tick = 1 }, impl.OK},
	{"somebody runs at the phase 8", func(k *impl.Kernel) { k.Tick = 8 }, impl.OK},
	{"somebody runs at the last tick", func(k *impl.Kernel) { k.Tick = 100000 }, impl.OK},
	{"nobody runs at the phase 0", func(k *impl.Kernel) { k.Tick, k.Run = 9, nobody }, impl.OK},
	{"one that is not alive has a zero account", func(k *impl.Kernel) { k.Accounts[2] = impl.Account{} }, impl.OK},
	{"no owners", func(k *impl.Kernel) { k.Owners = nil }, impl.ErrMany},
	{"too many owners", func(k *impl.Kernel) { k.Owners = repeat(impl.Free, 13) }, impl.ErrMany},
	{"a bad owner", func(k *impl.Kernel) { k.Owners[2] = 4 }, impl.ErrRange},
	{"a bad owner below", func(k *impl.Kernel) { k.Owners[2] = -2 }, impl.ErrRange},
	{"one owns too many", func(k *impl.Kernel) { k.Owners = repeat(0, 7) }, impl.ErrFull},
	{"none of alive", func(k *impl.Kernel) { k.Alive = nil }, impl.ErrMany},
	{"few of alive", func(k *impl.Kernel) { k.Alive = k.Alive[:3] }, impl.ErrMany},
	{"many of alive", func(k *impl.Kernel) { k.Alive = append(k.Alive, false) }, impl.ErrMany},
	{"no accounts", func(k *impl.Kernel) { k.Accounts = nil }, impl.ErrMany},
	{"few accounts", func(k *impl.Kernel) { k.Accounts = k.Accounts[:3] }, impl.ErrMany},
	{"many accounts", func(k *impl.Kernel) { k.Accounts = append(k.Accounts, impl.Account{}) }, impl.ErrMany},
	{"a bad first account", func(k *impl.Kernel) { k.Accounts[0].Used = -1 }, impl.ErrRange},
	{"a bad last account", func(k *impl.Kernel) { k.Accounts[3].Debt = 4 }, impl.ErrRange},
	{"too much used", func(k *impl.Kernel) { k.Accounts[1].Used = most + 1 }, impl.ErrRange},
	{"too much excess", func(k *impl.Kernel) { k.Accounts[1].Excess = most + 1 }, impl.ErrRange},
	{"too much given", func(k *impl.Kernel) { k.Accounts[1].Given = most + 1 }, impl.ErrRange},
	{"tick below", func(k *impl.Kernel) { k.Tick = -1 }, impl.ErrRange},
	{"tick above", func(k *impl.Kernel) { k.Tick = 100001 }, impl.ErrRange},
	{"the lowest tick", func(k *impl.Kernel) { k.Tick = lowest }, impl.ErrRange},
	{"the highest tick", func(k *impl.Kernel) { k.Tick = highest }, impl.ErrRange},
	{"run below", func(k *impl.Kernel) { k.Run = -2 }, impl.ErrRange},
	{"run above", func(k *impl.Kernel) { k.Run = 4 }, impl.ErrRange},
	{"the lowest run", func(k *impl.Kernel) { k.Run = lowest }, impl.ErrRange},
	{"the highest run", func(k *impl.Kernel) { k.Run = highest }, impl.ErrRange},
	{"the first owner is not alive", func(k *impl.Kernel) { k.Owners[0] = 2 }, impl.ErrState},
	{"the last owner is not alive", func(k *impl.Kernel) { k.Owners[3] = 2 }, impl.ErrState},
	{"who runs is not alive", func(k *impl.Kernel) { k.Run = 2 }, impl.ErrState},
	{"somebody runs at the first tick", func(k *impl.Kernel) { k.Tick = 0 }, impl.ErrState},
	{"somebody runs at a phase 0", func(k *impl.Kernel) { k.Tick = 99 }, impl.ErrState},
	{"who is not alive has used", func(k *impl.Kernel) { k.Accounts[2].Used = 1 }, impl.ErrState},
	{"who is not alive has excess", func(k *impl.Kernel) { k.Accounts[2].Excess = 1 }, impl.ErrState},
	{"who is not alive was given", func(k *impl.Kernel) { k.Accounts[2].Given = 1 }, impl.ErrState},
	{"who is not alive has a debt", func(k *impl.Kernel) { k.Accounts[2].Debt = 1 }, impl.ErrState},
	{"nobody is alive", func(k *impl.Kernel) { k.Alive = make([]bool, 4) }, impl.ErrState},
	{"full, and many", func(k *impl.Kernel) { k.Owners, k.Alive = repeat(0, 7), nil }, impl.ErrFull},
	{"a bad owner, and many", func(k *impl.Kernel) { k.Owners[0], k.Accounts = 4, nil }, impl.ErrRange},
	{"many, and a bad account", func(k *impl.Kernel) { k.Alive, k.Accounts[0].Used = nil, -1 }, impl.ErrMany},
	{"many, and a bad tick", func(k *impl.Kernel) { k.Accounts, k.Tick = k.Accounts[:3], -1 }, impl.ErrMany},
	{"many, and a state", func(k *impl.Kernel) { k.Alive, k.Run, k.Tick = k.Alive[:1], 2, 0 }, impl.ErrMany},
	{"a bad account, and a state", func(k *impl.Kernel) { k.Accounts[2].Debt = 4 }, impl.ErrRange},
	{"a bad tick, and a state", func(k *impl.Kernel) { k.Tick, k.Owners[0] = -9, 2 }, impl.ErrRange},
	{"a bad run, and a state", func(k *impl.Kernel) { k.Run, k.Tick = 4, 0 }, impl.ErrRange},
	{"all at once", func(k *impl.Kernel) { *k = impl.Kernel{Tick: -1, Run: 4} }, impl.ErrMany},
}

func TestKernelFault(t *testing.T) {
	for _, c := range turnedKernels {
		k := sound()
		c.turn(&k)
		wantCode(t, c.name, impl.KernelFault(k), c.want)
		for _, r := range []impl.KernelResult{impl.DoTick(k, impl.Act{Kind: impl.ActWork}), impl.DoCall(k, impl.Call{Kind: impl.CallDestroy})} {
			if c.want != impl.OK && (r.Code != c.want || !isBare(r)) {
				t.Errorf("%s: a step of it tells %v, want %d alone", c.name, r, c.want)
			}
		}
	}
	wantCode(t, "the zero value", impl.KernelFault(impl.Kernel{}), impl.ErrMany)
}

func TestNewKernel(t *testing.T) {
	for slots := int64(1); slots <= 12; slots++ {
		r := impl.NewKernel(slots)
		want := kernelOf(0, nobody, repeat(impl.Free, int(slots)))
		if r.Code != impl.OK || len(r.Notes) != 0 || !sameFields(r.Kernel, want) || impl.KernelFault(r.Kernel) != impl.OK {
			t.Error("a new kernel of", slots, r)
		}
	}
	for _, slots := range []int64{lowest, -1, 0, 13, 1 << 32, 1<<32 + 1, highest} {
		if r := impl.NewKernel(slots); r.Code != impl.ErrMany || !isBare(r) {
			t.Error("a new kernel of", slots, r)
		}
	}
	first, second := impl.NewKernel(12), impl.NewKernel(12)
	scribbleKernel(first.Kernel)
	if !sameFields(second.Kernel, kernelOf(0, nobody, repeat(impl.Free, 12))) || !sameFields(impl.NewKernel(12).Kernel, second.Kernel) {
		t.Error("new kernels share memory")
	}
}

func TestCallFault(t *testing.T) {
	cases := []struct {
		kind, env, slot, to int64
		want                int64
	}{
		{impl.CallCreate, 0, 0, 0, impl.OK}, {impl.CallCreate, 3, 0, 0, impl.OK}, {impl.CallDestroy, 3, 0, 0, impl.OK},
		{impl.CallTake, 3, 11, 0, impl.OK}, {impl.CallFree, 3, 11, 0, impl.OK}, {impl.CallMove, 3, 11, 3, impl.OK},
		{impl.CallTake, 0, 0, 0, impl.OK}, {impl.CallFree, 0, 0, 0, impl.OK}, {impl.CallMove, 0, 0, 0, impl.OK},
		{0, 0, 0, 0, impl.ErrForm}, {6, 0, 0, 0, impl.ErrForm}, {-1, 0, 0, 0, impl.ErrForm},
		{highest, 0, 0, 0, impl.ErrForm}, {lowest, 0, 0, 0, impl.ErrForm}, {1<<32 + 1, 0, 0, 0, impl.ErrForm},
		{impl.CallCreate, 0, 1, 0, impl.ErrForm}, {impl.CallCreate, 0, -1, 0, impl.ErrForm}, {impl.CallCreate, 0, 0, 1, impl.ErrForm},
		{impl.CallDestroy, 0, 1, 0, impl.ErrForm}, {impl.CallDestroy, 0, 0, 1, impl.ErrForm}, {impl.CallDestroy, 0, 0, -1, impl.ErrForm},
		{impl.CallTake, 0, 0, 1, impl.ErrForm}, {impl.CallTake, 0, 0, -1, impl.ErrForm},
		{impl.CallFree, 0, 0, 1, impl.ErrForm}, {impl.CallFree, 0, 0, -1, impl.ErrForm},
		{impl.CallCreate, -1, 0, 0, impl.ErrRange}, {impl.CallCreate, 4, 0, 0, impl.ErrRange}, {impl.CallCreate, highest, 0, 0, impl.ErrRange},
		{impl.CallDestroy, -1, 0, 0, impl.ErrRange}, {impl.CallDestroy, 4, 0, 0, impl.ErrRange}, {impl.CallDestroy, lowest, 0, 0, impl.ErrRange},
		{impl.CallTake, -1, 0, 0, impl.ErrRange}, {impl.CallTake, 4, 0, 0, impl.ErrRange},
		{impl.CallTake, 0, -1, 0, impl.ErrRange}, {impl.CallTake, 0, 12, 0, impl.ErrRange}, {impl.CallTake, 0, highest, 0, impl.ErrRange},
		{impl.CallFree, -1, 0, 0, impl.ErrRange}, {impl.CallFree, 4, 0, 0, impl.ErrRange},
		{impl.CallFree, 0, -1, 0, impl.ErrRange}, {impl.CallFree, 0, 12, 0, impl.ErrRange}, {impl.CallFree, 0, lowest, 0, impl.ErrRange},
		{impl.CallMove, -1, 0, 0, impl.ErrRange}, {impl.CallMove, 4, 0, 0, impl.ErrRange},
		{impl.CallMove, 0, -1, 0, impl.ErrRange}, {impl.CallMove, 0, 12, 0, impl.ErrRange},
		{impl.CallMove, 0, 0, -1, impl.ErrRange}, {impl.CallMove, 0, 0, 4, impl.ErrRange}, {impl.CallMove, 0, 0, highest, impl.ErrRange},
		{6, 4, 12, 4, impl.ErrForm}, {0, -1, 0, 0, impl.ErrForm}, {impl.CallCreate, 4, 12, 0, impl.ErrForm},
		{impl.CallDestroy, -1, 0, 4, impl.ErrForm}, {impl.CallTake, 4, 12, 4, impl.ErrForm}, {impl.CallFree, 4, -1, -1, impl.ErrForm},
	}
	for _, c := range cases {
		call := callOf(c.kind, c.env, c.slot, c.to)
		if got := impl.CallFault(call.Call); got != c.want {
			t.Errorf("the fault of %v: %d, want %d", call.Call, got, c.want)
		}
		if got := impl.EventFault(call); got != c.want {
			t.Errorf("the fault of an event with %v: %d, want %d", call.Call, got, c.want)
		}
		if r := impl.DoCall(sound(), call.Call); c.want != impl.OK && (r.Code != c.want || !isBare(r)) {
			t.Errorf("%v is done: %v, want %d alone", call.Call, r, c.want)
		}
	}
}

func TestEventFault(t *testing.T) {
	create := impl.Call{Kind: impl.CallCreate}
	work := impl.Act{Kind: impl.ActWork}
	cases := []struct {
		event impl.Event
		want  int64
	}{
		{tickOf(impl.ActWork, 0), impl.OK}, {tickOf(impl.ActReturn, 0), impl.OK}, {tickOf(impl.ActYield, 0), impl.OK}, {tickOf(impl.ActYield, 3), impl.OK},
		{tickOf(0, 0), impl.ErrForm}, {tickOf(4, 0), impl.ErrForm}, {tickOf(-1, 0), impl.ErrForm}, {tickOf(highest, 0), impl.ErrForm}, {tickOf(lowest, 0), impl.ErrForm},
		{tickOf(impl.ActWork, 1), impl.ErrForm}, {tickOf(impl.ActWork, -1), impl.ErrForm}, {tickOf(impl.ActReturn, 1), impl.ErrForm}, {tickOf(impl.ActReturn, 4), impl.ErrForm},
		{tickOf(impl.ActYield, -1), impl.ErrRange}, {tickOf(impl.ActYield, 4), impl.ErrRange}, {tickOf(impl.ActYield, highest), impl.ErrRange}, {tickOf(impl.ActYield, lowest), impl.ErrRange},
		{impl.Event{}, impl.ErrForm}, {impl.Event{Kind: 3}, impl.ErrForm}, {impl.Event{Kind: -1, Call: create}, impl.ErrForm},
		{impl.Event{Kind: 0, Act: work}, impl.ErrForm}, {impl.Event{Kind: highest, Act: work}, impl.ErrForm}, {impl.Event{Kind: 1<<32 + 1, Act: work}, impl.ErrForm},
		{impl.Event{Kind: impl.EvTick}, impl.ErrForm}, {impl.Event{Kind: impl.EvCall}, impl.ErrForm},
		{impl.Event{Kind: impl.EvTick, Call: create}, impl.ErrForm}, {impl.Event{Kind: impl.EvCall, Act: work}, impl.ErrForm},
		{impl.Event{Kind: impl.EvTick, Act: work, Call: create}, impl.ErrForm}, {impl.Event{Kind: impl.EvCall, Act: work, Call: create}, impl.ErrForm},
		{impl.Event{Kind: impl.EvTick, Act: work, Call: impl.Call{Env: 1}}, impl.ErrForm}, {impl.Event{Kind: impl.EvTick, Act: work, Call: impl.Call{Slot: 1}}, impl.ErrForm},
		{impl.Event{Kind: impl.EvTick, Act: work, Call: impl.Call{To: 1}}, impl.ErrForm}, {impl.Event{Kind: impl.EvCall, Act: impl.Act{To: 1}, Call: create}, impl.ErrForm},
		{impl.Event{Kind: impl.EvTick, Act: impl.Act{Kind: impl.ActYield, To: 4}, Call: create}, impl.ErrForm},
		{impl.Event{Kind: impl.EvCall, Act: work, Call: impl.Call{Kind: impl.CallCreate, Env: 4}}, impl.ErrForm},
	}
	for _, c := range cases {
		if got := impl.EventFault(c.event); got != c.want {
			t.Errorf("the fault of %v: %d, want %d", c.event, got, c.want)
		}
		if c.event.Kind != impl.EvTick || c.event.Call != (impl.Call{}) || c.want == impl.OK {
			continue
		}
		if r := impl.DoTick(sound(), c.event.Act); r.Code != c.want || !isBare(r) {
			t.Errorf("a tick with %v: %v, want %d alone", c.event.Act, r, c.want)
		}
	}
}

func TestDoCall(t *testing.T) {
	six := kernelOf(25, nobody, join(repeat(1, 6), []int64{impl.Free, 2}), 0, 1, 2)
	cases := []struct {
		name string
		k    impl.Kernel
		call impl.Event
		code int64
		turn func(k *impl.Kernel)
	}{
		{"create", sound(), callOf(impl.CallCreate, 2, 0, 0), impl.OK, func(k *impl.Kernel) { k.Alive[2] = true }},
		{"create one that is", sound(), callOf(impl.CallCreate, 1, 0, 0), impl.ErrTaken, nil},
		{"destroy", sound(), callOf(impl.CallDestroy, 3, 0, 0), impl.OK, func(k *impl.Kernel) { k.Alive[3], k.Owners[1] = false, impl.Free }},
		{"destroy one that has an account", sound(), callOf(impl.CallDestroy, 1, 0, 0), impl.OK, func(k *impl.Kernel) { k.Alive[1], k.Accounts[1] = false, impl.Account{} }},
		{"destroy who runs", sound(), callOf(impl.CallDestroy, 0, 0, 0), impl.OK, func(k *impl.Kernel) {
			k.Alive[0], k.Accounts[0], k.Run, k.Owners[0], k.Owners[3] = false, impl.Account{}, nobody, impl.Free, impl.Free
		}},
		{"destroy none", sound(), callOf(impl.CallDestroy, 2, 0, 0), impl.ErrNone, nil},
		{"take", sound(), callOf(impl.CallTake, 1, 2, 0), impl.OK, func(k *impl.Kernel) { k.Owners[2] = 1 }},
		{"take another's", sound(), callOf(impl.CallTake, 1, 0, 0), impl.ErrTaken, nil},
		{"take its own", sound(), callOf(impl.CallTake, 0, 0, 0), impl.ErrTaken, nil},
		{"take a slot that is none", sound(), callOf(impl.CallTake, 1, 4, 0), impl.ErrNone, nil},
		{"take too many", six, callOf(impl.CallTake, 1, 6, 0), impl.ErrFull, nil},
		{"take, and is not alive", sound(), callOf(impl.CallTake, 2, 0, 0), impl.ErrNone, nil},
		{"free", sound(), callOf(impl.CallFree, 0, 3, 0), impl.OK, func(k *impl.Kernel) { k.Owners[3] = impl.Free }},
		{"free another's", sound(), callOf(impl.CallFree, 0, 1, 0), impl.ErrOwner, nil},
		{"free what is free", sound(), callOf(impl.CallFree, 0, 2, 0), impl.ErrOwner, nil},
		{"free a slot that is none", sound(), callOf(impl.CallFree, 0, 11, 0), impl.ErrNone, nil},
		{"free, and is not alive", sound(), callOf(impl.CallFree, 2, 0, 0), impl.ErrNone, nil},
		{"move", sound(), callOf(impl.CallMove, 0, 3, 1), impl.OK, func(k *impl.Kernel) { k.Owners[3] = 1 }},
		{"move to itself", sound(), callOf(impl.CallMove, 0, 3, 0), impl.OK, func(k *impl.Kernel) {}},
		{"move the slot of this window", sound(), callOf(impl.CallMove, 0, 0, 3), impl.OK, func(k *impl.Kernel) { k.Owners[0] = 3 }},
		{"move another's", sound(), callOf(impl.CallMove, 1, 0, 0), impl.ErrOwner, nil},
		{"move what is free", sound(), callOf(impl.CallMove, 0, 2, 1), impl.ErrOwner, nil},
		{"move a slot that is none", sound(), callOf(impl.CallMove, 0, 4, 1), impl.ErrNone, nil},
		{"move to one that has too many", six, callOf(impl.CallMove, 2, 7, 1), impl.ErrFull, nil},
		{"move to itself, that has the most", six, callOf(impl.CallMove, 1, 0, 1), impl.OK, func(k *impl.Kernel) {}},
		{"move, and is not alive", sound(), callOf(impl.CallMove, 2, 0, 0), impl.ErrNone, nil},
		{"move to one that is not alive", sound(), callOf(impl.CallMove, 0, 0, 2), impl.ErrNone, nil},
		{"move another's to one that is not alive", sound(), callOf(impl.CallMove, 0, 1, 2), impl.ErrNone, nil},
	}
	for _, c := range cases {
		r := impl.DoCall(c.k, c.call.Call)
		if c.code != impl.OK {
			if r.Code != c.code || !isBare(r) {
				t.Errorf("%s: %v, want %d alone", c.name, r, c.code)
			}
			continue
		}
		want := cloneKernel(c.k)
		c.turn(&want)
		if r.Code != impl.OK || len(r.Notes) != 0 || !sameFields(r.Kernel, want) {
			t.Errorf("%s: %v, want %v", c.name, r, want)
		}
	}
}

func TestDoTick(t *testing.T) {
	owners := []int64{0, 1, impl.Free}
	at := func(tick int64, run int64) impl.Kernel { return kernelOf(tick, run, owners, 0, 1, 2) }
	full := accountOf(most, most, most, 3)
	work, back := tickOf(impl.ActWork, 0), tickOf(impl.ActReturn, 0)
	cases := []struct {
		name  string
		k     impl.Kernel
		event impl.Event
		turn  func(k *impl.Kernel)
		notes []impl.Note
	}{
		{"a window of nobody", at(18, nobody), work, func(k *impl.Kernel) {}, []impl.Note{noteOf(18, nobody, impl.NoteIdle)}},
		{"a window of nobody, and a yield", at(18, nobody), tickOf(impl.ActYield, 1), func(k *impl.Kernel) {}, []impl.Note{noteOf(18, nobody, impl.NoteIdle)}},
		{"a window begins", at(0, nobody), work, func(k *impl.Kernel) { k.Run, k.Accounts[0].Used = 0, 1 }, []impl.Note{noteOf(0, 0, impl.NoteRun)}},
		{"the second slot", at(9, nobody), work, func(k *impl.Kernel) { k.Run, k.Accounts[1].Used = 1, 1 }, []impl.Note{noteOf(9, 1, impl.NoteRun)}},
		{"the second round", at(36, nobody), work, func(k *impl.Kernel) { k.Run, k.Accounts[1].Used = 1, 1 }, []impl.Note{noteOf(36, 1, impl.NoteRun)}},
		{"a window begins, and is given back", at(0, nobody), back, func(k *impl.Kernel) {}, []impl.Note{noteOf(0, 0, impl.NoteRun), noteOf(0, 0, impl.NoteReturn)}},
		{"a window begins with a yield", at(0, nobody), tickOf(impl.ActYield, 2), func(k *impl.Kernel) { k.Run, k.Accounts[2].Given = 2, 1 },
			[]impl.Note{noteOf(0, 0, impl.NoteRun), noteOf(0, 2, impl.NoteYield)}},
		{"a debt of 1", withAccount(at(0, nobody), 0, accountOf(2, 3, 4, 1)), work, func(k *impl.Kernel) { k.Accounts[0].Debt = 0 }, []impl.Note{noteOf(0, 0, impl.NoteSkip)}},
		{"a debt at its bound", withAccount(at(0, nobody), 0, full), back, func(k *impl.Kernel) { k.Accounts[0].Debt = 2 }, []impl.Note{noteOf(0, 0, impl.NoteSkip)}},
		{"a debt of another one", withAccount(at(0, nobody), 1, full), work, func(k *impl.Kernel) { k.Run, k.Accounts[0].Used = 0, 1 }, []impl.Note{noteOf(0, 0, impl.NoteRun)}},
		{"a debt within the window", withAccount(at(1, 0), 0, accountOf(0, 0, 0, 3)), work, func(k *impl.Kernel) { k.Accounts[0].Used = 1 }, nil},
		{"nobody runs", at(4, nobody), work, func(k *impl.Kernel) {}, nil},
		{"nobody runs, and would give back", at(4, nobody), back, func(k *impl.Kernel) {}, nil},
		{"nobody runs, and would yield", at(4, nobody), tickOf(impl.ActYield, 1), func(k *impl.Kernel) {}, nil},
		{"nobody runs at the end", at(8, nobody), work, func(k *impl.Kernel) {}, nil},
		{"work at the phase 5", at(5, 0), work, func(k *impl.Kernel) { k.Accounts[0].Used = 1 }, nil},
		{"work at the phase 6", at(6, 0), work, func(k *impl.Kernel) { k.Accounts[0].Excess = 1 }, nil},
		{"who runs is not the owner", at(14, 2), work, func(k *impl.Kernel) { k.Accounts[2].Used = 1 }, nil},
		{"a return at the phase 5", at(5, 1), back, func(k *impl.Kernel) { k.Run = nobody }, []impl.Note{noteOf(5, 1, impl.NoteReturn)}},
		{"a return at the phase 7", at(7, 0), back, func(k *impl.Kernel) { k.Run = nobody }, []impl.Note{noteOf(7, 0, impl.NoteReturn)}},
		{"a return at the last phase", at(8, 0), back, func(k *impl.Kernel) { k.Run = nobody }, []impl.Note{noteOf(8, 0, impl.NoteReturn)}},
		{"a yield at the phase 5", at(5, 0), tickOf(impl.ActYield, 1), func(k *impl.Kernel) { k.Run, k.Accounts[1].Given = 1, 1 }, []impl.Note{noteOf(5, 1, impl.NoteYield)}},
		{"a yield at the phase 6", at(6, 0), tickOf(impl.ActYield, 1), func(k *impl.Kernel) { k.Accounts[0].Excess = 1 }, nil},
		{"a yield at the last phase", at(8, 0), tickOf(impl.ActYield, 1), func(k *impl.Kernel) { k.Accounts[0], k.Run = accountOf(0, 1, 0, 1), nobody }, []impl.Note{noteOf(8, 0, impl.NoteForced)}},
		{"a yield to itself", at(5, 0), tickOf(impl.ActYield, 0), func(k *impl.Kernel) { k.Accounts[0].Used = 1 }, nil},
		{"a yield to one that is not alive", at(5, 0), tickOf(impl.ActYield, 3), func(k *impl.Kernel) { k.Accounts[0].Used = 1 }, nil},
		{"a late yield to itself", at(6, 0), tickOf(impl.ActYield, 0), func(k *impl.Kernel) { k.Accounts[0].Excess = 1 }, nil},
		{"a yield back to the owner", at(5, 2), tickOf(impl.ActYield, 0), func(k *impl.Kernel) { k.Run, k.Accounts[0].Given = 0, 1 }, []impl.Note{noteOf(5, 0, impl.NoteYield)}},
		{"a yield to one that owes", withAccount(at(5, 0), 1, accountOf(0, 0, 0, 3)), tickOf(impl.ActYield, 1), func(k *impl.Kernel) { k.Run, k.Accounts[1].Given = 1, 1 }, []impl.Note{noteOf(5, 1, impl.NoteYield)}},
		{"the end", at(8, 0), work, func(k *impl.Kernel) { k.Accounts[0], k.Run = accountOf(0, 1, 0, 1), nobody }, []impl.Note{noteOf(8, 0, impl.NoteForced)}},
		{"the end of one that was given", at(17, 2), work, func(k *impl.Kernel) { k.Accounts[2], k.Run = accountOf(0, 1, 0, 1), nobody }, []impl.Note{noteOf(17, 2, impl.NoteForced)}},
		{"the end with a debt of 2", withAccount(at(8, 0), 0, accountOf(4, 5, 6, 2)), work, func(k *impl.Kernel) { k.Accounts[0], k.Run = accountOf(4, 6, 6, 3), nobody },
			[]impl.Note{noteOf(8, 0, impl.NoteForced)}},
		{"the end with a debt at its bound", withAccount(at(8, 0), 0, accountOf(4, 5, 6, 3)), work, func(k *impl.Kernel) { k.Accounts[0], k.Run = accountOf(4, 6, 6, 3), nobody },
			[]impl.Note{noteOf(8, 0, impl.NoteDropped)}},
		{"full, in time", withAccount(at(5, 0), 0, accountOf(most, 0, 0, 0)), work, func(k *impl.Kernel) {}, nil},
		{"full, too late", withAccount(at(7, 0), 0, accountOf(0, most, 0, 0)), work, func(k *impl.Kernel) {}, nil},
		{"full, and a yield that is none", withAccount(at(5, 0), 0, accountOf(most, 0, 0, 0)), tickOf(impl.ActYield, 3), func(k *impl.Kernel) {}, nil},
		{"full, given", withAccount(at(5, 0), 1, full), tickOf(impl.ActYield, 1), func(k *impl.Kernel) { k.Run = 1 }, []impl.Note{noteOf(5, 1, impl.NoteYield)}},
		{"full, at the end", withAccount(at(8, 0), 0, accountOf(most, most, most, 0)), work, func(k *impl.Kernel) { k.Accounts[0].Debt, k.Run = 1, nobody }, []impl.Note{noteOf(8, 0, impl.NoteForced)}},
		{"full, and dropped", withAccount(at(8, 0), 0, full), work, func(k *impl.Kernel) { k.Run = nobody }, []impl.Note{noteOf(8, 0, impl.NoteDropped)}},
		{"the last tick but one", at(99998, 1), work, func(k *impl.Kernel) { k.Accounts[1], k.Run = accountOf(0, 1, 0, 1), nobody }, []impl.Note{noteOf(99998, 1, impl.NoteForced)}},
		{"the last tick", kernelOf(99999, nobody, []int64{0}, 0), work, func(k *impl.Kernel) { k.Run, k.Accounts[0].Used = 0, 1 }, []impl.Note{noteOf(99999, 0, impl.NoteRun)}},
	}
	for _, c := range cases {
		want := cloneKernel(c.k)
		c.turn(&want)
		want.Tick++
		r := impl.DoTick(c.k, c.event.Act)
		if r.Code != impl.OK || !sameFields(r.Kernel, want) || !slices.Equal(r.Notes, c.notes) {
			t.Errorf("%s: %v, want %v %v", c.name, r, want, c.notes)
		}
	}
}

func TestDoTickAtTheEndOfTime(t *testing.T) {
	for _, run := range []int64{nobody, 0} {
		k := kernelOf(100000, run, []int64{0}, 0)
		for _, c := range []struct {
			event impl.Event
			want  int64
		}{
			{tickOf(impl.ActWork, 0), impl.ErrFull}, {tickOf(impl.ActReturn, 0), impl.ErrFull}, {tickOf(impl.ActYield, 0), impl.ErrFull},
			{tickOf(0, 0), impl.ErrForm}, {tickOf(impl.ActWork, 1), impl.ErrForm}, {tickOf(impl.ActYield, 4), impl.ErrRange},
		} {
			if r := impl.DoTick(k, c.event.Act); r.Code != c.want || !isBare(r) {
				t.Errorf("a tick of %v behind the last one: %v, want %d alone", c.event.Act, r, c.want)
			}
		}
		if r := impl.DoCall(k, impl.Call{Kind: impl.CallDestroy}); r.Code != impl.OK || r.Kernel.Tick != 100000 || r.Kernel.Run != nobody {
			t.Error("a call at the last tick", r)
		}
	}
}

// The codes of a kernel come ahead of those of a call or an act.
func TestStepsAskTheKernelFirst(t *testing.T) {
	few, strange := kernelOf(3, nobody, nil), kernelOf(0, 1, []int64{1}, 1)
	for _, c := range []struct {
		k    impl.Kernel
		want int64
	}{{few, impl.ErrMany}, {strange, impl.ErrState}, {kernelOf(100001, nobody, []int64{1}, 1), impl.ErrRange}} {
		for _, r := range []impl.KernelResult{
			impl.DoTick(c.k, impl.Act{}), impl.DoTick(c.k, impl.Act{Kind: impl.ActYield, To: 4}), impl.DoTick(c.k, impl.Act{Kind: impl.ActWork}),
			impl.DoCall(c.k, impl.Call{}), impl.DoCall(c.k, impl.Call{Kind: impl.CallTake, Env: 4}), impl.DoCall(c.k, impl.Call{Kind: impl.CallCreate, Env: 1}),
		} {
			if r.Code != c.want || !isBare(r) {
				t.Errorf("a step of %v: %v, want %d alone", c.k, r, c.want)
			}
		}
	}
}

func TestSameKernels(t *testing.T) {
	wild := impl.Kernel{Owners: []int64{99}, Alive: []bool{true}, Tick: lowest, Run: highest}
	if !impl.SameKernels(sound(), sound()) || !impl.SameKernels(wild, cloneKernel(wild)) {
		t.Error("the same ones are not the same")
	}
	if !impl.SameKernels(impl.Kernel{}, impl.Kernel{Owners: []int64{}, Alive: []bool{}, Accounts: []impl.Account{}}) {
		t.Error("empty and nil are not the same")
	}
	for name, turn := range map[string]func(k *impl.Kernel){
		"an owner":      func(k *impl.Kernel) { k.Owners[3] = 1 },
		"fewer owners":  func(k *impl.Kernel) { k.Owners = k.Owners[:3] },
		"more owners":   func(k *impl.Kernel) { k.Owners = append(k.Owners, 0) },
		"alive":         func(k *impl.Kernel) { k.Alive[2] = true },
		"fewer alive":   func(k *impl.Kernel) { k.Alive = k.Alive[:3] },
		"no alive":      func(k *impl.Kernel) { k.Alive = nil },
		"used":          func(k *impl.Kernel) { k.Accounts[3].Used = 1 },
		"excess":        func(k *impl.Kernel) { k.Accounts[3].Excess = 1 },
		"given":         func(k *impl.Kernel) { k.Accounts[0].Given = 1 },
		"debt":          func(k *impl.Kernel) { k.Accounts[0].Debt = 1 },
		"more accounts": func(k *impl.Kernel) { k.Accounts = append(k.Accounts, impl.Account{}) },
		"tick":          func(k *impl.Kernel) { k.Tick = 26 },
		"run":           func(k *impl.Kernel) { k.Run = nobody },
	} {
		k := sound()
		turn(&k)
		if impl.SameKernels(sound(), k) || impl.SameKernels(k, sound()) {
			t.Error("the same in spite of", name)
		}
	}
}
