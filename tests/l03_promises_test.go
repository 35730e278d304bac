package tests

import (
	"slices"
	"testing"

	"loop.example/g00789/impl"
)

var (
	markedAccount = accountOf(mark, mark, mark, mark)
	markedNote    = noteOf(mark, mark, mark)
)

// spareKernel copies a kernel into longer memory, and gives out both all of it
// and the kernel.
func spareKernel(k impl.Kernel) (whole impl.Kernel, part impl.Kernel) {
	whole, part = k, k
	whole.Owners, part.Owners = spare(k.Owners)
	whole.Alive, part.Alive = spareOf(k.Alive, true)
	whole.Accounts, part.Accounts = spareOf(k.Accounts, markedAccount)
	return whole, part
}

// scribbleKernel turns each value of it, the alive ones too.
func scribbleKernel(k impl.Kernel) {
	scribble(k.Owners)
	scribbleOf(k.Accounts, markedAccount)
	alive := k.Alive[:cap(k.Alive)]
	for i := range alive {
		alive[i] = !alive[i]
	}
}

func sameAnswers(a impl.KernelResult, b impl.KernelResult) bool {
	return a.Code == b.Code && sameFields(a.Kernel, b.Kernel) && slices.Equal(a.Notes, b.Notes)
}

// checkStep asks a step twice, of memory that would show a change, and holds
// the answers against what the document tells.
func checkStep(t *testing.T, k impl.Kernel, what any, step func(k impl.Kernel) impl.KernelResult, want impl.KernelResult) {
	t.Helper()
	whole, part := spareKernel(k)
	before := cloneKernel(whole)
	first, second := step(part), step(part)
	if !sameAnswers(first, want) || !sameAnswers(second, want) {
		t.Fatalf("%v of %v: %v and %v, want %v", what, k, first, second, want)
	}
	if first.Code == impl.OK && toldKernelFault(first.Kernel) != impl.OK {
		t.Fatalf("%v of %v: the answer %v has a fault", what, k, first.Kernel)
	}
	scribbleKernel(first.Kernel)
	scribbleOf(first.Notes, markedNote)
	if !sameFields(whole, before) {
		t.Fatalf("%v of %v: the argument was turned or is shared: %v", what, k, whole)
	}
	scribbleKernel(whole)
	if !sameAnswers(second, want) {
		t.Fatalf("%v of %v: an answer is shared: %v, want %v", what, k, second, want)
	}
}

func checkKernel(t *testing.T, k impl.Kernel, acts []impl.Act, calls []impl.Call) {
	t.Helper()
	wantCode(t, "fault", impl.KernelFault(k), toldKernelFault(k))
	for _, a := range acts {
		checkStep(t, k, a, func(k impl.Kernel) impl.KernelResult { return impl.DoTick(k, a) }, toldDoTick(k, a))
	}
	for _, c := range calls {
		checkStep(t, k, c, func(k impl.Kernel) impl.KernelResult { return impl.DoCall(k, c) }, toldDoCall(k, c))
	}
}

// eachAct and eachCall have every kind, and numbers on both sides of each bound.
func eachAct() []impl.Act {
	var acts []impl.Act
	for kind := int64(0); kind <= 4; kind++ {
		for to := int64(-1); to <= 4; to++ {
			acts = append(acts, impl.Act{Kind: kind, To: to})
		}
	}
	return append(acts, impl.Act{Kind: lowest, To: lowest}, impl.Act{Kind: highest, To: highest}, impl.Act{Kind: 3, To: lowest}, impl.Act{Kind: 3, To: highest})
}

func eachCall(slots ...int64) []impl.Call {
	var calls []impl.Call
	for kind := int64(0); kind <= 6; kind++ {
		for env := int64(-1); env <= 4; env++ {
			for to := int64(-1); to <= 4; to++ {
				for _, slot := range slots {
					calls = append(calls, impl.Call{Kind: kind, Env: env, Slot: slot, To: to})
				}
			}
		}
	}
	return append(calls, impl.Call{Kind: lowest}, impl.Call{Kind: highest}, impl.Call{Kind: 3, Env: lowest}, impl.Call{Kind: 5, To: highest}, impl.Call{Kind: 5, Slot: lowest})
}

// Promises 1 and 4: every act at every phase of two rounds, whoever owns the
// slots, runs, owes and is full.
func TestEveryActAtEveryPhase(t *testing.T) {
	acts := []impl.Act{{Kind: 1}, {Kind: 2}, {Kind: 3}, {Kind: 3, To: 1}, {Kind: 3, To: 2}, {Kind: 3, To: 3}}
	eachList(2, []int64{impl.Free, 0, 1}, func(owners []int64) {
		for tick := int64(0); tick <= 36; tick++ {
			for run := int64(nobody); run <= 2; run++ {
				for debt := int64(0); debt <= impl.MaxDebt; debt++ {
					for _, count := range []int64{0, most - 1, most} {
						k := kernelOf(tick, run, owners, 0, 1, 2)
						for env := range int64(3) {
							k.Accounts[env] = accountOf(count, count, count, (debt+env)%4)
						}
						checkKernel(t, k, acts, nil)
					}
				}
			}
		}
	})
}

// chanceKernel is sound, but for about one in three.
func chanceKernel(chance *steps) impl.Kernel {
	k := kernelOf(chance.below(200), nobody, make([]int64, 1+chance.below(12)))
	if chance.below(6) == 0 {
		k.Tick = 100000 - chance.below(20)
	}
	for env := range k.Alive {
		if k.Alive[env] = chance.below(4) > 0; k.Alive[env] {
			counts := []int64{0, 1, 7, most - 1, most}
			k.Accounts[env] = accountOf(counts[chance.below(5)], counts[chance.below(5)], counts[chance.below(5)], chance.below(4))
		}
	}
	for slot := range k.Owners {
		if k.Owners[slot] = chance.below(4); !k.Alive[k.Owners[slot]] {
			k.Owners[slot] = impl.Free
		}
	}
	if run := chance.below(4); k.Alive[run] && k.Tick%9 != 0 {
		k.Run = run
	}
	if chance.below(3) == 0 {
		spoil(chance, &k)
	}
	if chance.below(9) == 0 {
		spoil(chance, &k)
	}
	return k
}

// spoil turns a part of the kernel, mostly so that it has a fault.
func spoil(chance *steps, k *impl.Kernel) {
	bad := []int64{lowest, -2, -1, 0, 3, 4, highest}[chance.below(7)]
	switch chance.below(9) {
	case 0:
		k.Owners = [][]int64{nil, {}, repeat(0, 7), repeat(impl.Free, 13), {bad}}[chance.below(5)]
	case 1:
		k.Alive = k.Alive[:chance.below(int64(len(k.Alive)+1))]
	case 2:
		k.Accounts = append(k.Accounts, impl.Account{})
	case 3:
		k.Tick = bad
	case 4:
		k.Run = bad
	case 5:
		k.Tick -= k.Tick % 9
	case 6:
		k.Alive = make([]bool, 4)
	case 7:
		k.Accounts = slices.Clone(k.Accounts)
		k.Accounts[chance.below(4)].Given = bad
	default:
		k.Accounts = slices.Clone(k.Accounts)
		k.Accounts[chance.below(4)].Debt = bad
	}
}

// Promise 1: every act and call on many kernels, with and without faults.
func TestEveryStepOnManyKernels(t *testing.T) {
	var chance steps
	sounds := 0
	for range 300 {
		k := chanceKernel(&chance)
		if toldKernelFault(k) == impl.OK {
			sounds++
		}
		checkKernel(t, k, eachAct(), eachCall(-1, 0, int64(len(k.Owners))-1, int64(len(k.Owners)), 11, 12))
	}
	if !among(int64(sounds), 100, 250) {
		t.Error("the kernels are too much alike:", sounds, "are sound")
	}
}

// Promise 1: every event on both sides of each bound.
func TestEveryEventFault(t *testing.T) {
	calls := append(eachCall(-1, 0, 11, 12), impl.Call{})
	for _, c := range calls {
		wantCode(t, "call", impl.CallFault(c), toldCallFault(c))
	}
	for kind := int64(-1); kind <= 3; kind++ {
		for _, a := range append(eachAct(), impl.Act{}) {
			for _, c := range calls {
				e := impl.Event{Kind: kind, Act: a, Call: c}
				if got := impl.EventFault(e); got != toldEventFault(e) {
					t.Fatal(e, got, "want", toldEventFault(e))
				}
			}
		}
	}
}

// chanceEvents begin, mostly, so that somebody has a slot.
func chanceEvents(chance *steps, slots int64, count int64) []impl.Event {
	var events []impl.Event
	for env := range int64(impl.MaxEnvs) {
		if chance.below(4) > 0 {
			events = append(events, callOf(impl.CallCreate, env, 0, 0), callOf(impl.CallTake, env, chance.below(slots), 0))
		}
	}
	for int64(len(events)) < count {
		events = append(events, chanceEvent(chance, slots))
	}
	return events[:count]
}

func chanceEvent(chance *steps, slots int64) impl.Event {
	to := chance.below(4)
	switch chance.below(20) {
	case 0:
		return callOf(1+chance.below(2), to, 0, 0)
	case 1:
		return callOf(3+chance.below(2), to, chance.below(slots+1), 0)
	case 2:
		return callOf(impl.CallMove, to, chance.below(slots), chance.below(4))
	case 3:
		return tickOf(impl.ActReturn, 0)
	case 4, 5:
		return tickOf(impl.ActYield, to)
	case 6:
		return impl.Event{Kind: chance.below(4), Act: impl.Act{Kind: chance.below(5), To: chance.below(6) - 1}, Call: impl.Call{Kind: chance.below(2)}}
	}
	return tickOf(impl.ActWork, 0)
}

func sameRuns(a impl.RunResult, b impl.RunResult) bool {
	return a.Code == b.Code && sameFields(a.Kernel, b.Kernel) && slices.Equal(a.Codes, b.Codes) && slices.Equal(a.Notes, b.Notes)
}

func isBareRun(r impl.RunResult, code int64) bool {
	return r.Code == code && isZeroKernel(r.Kernel) && len(r.Codes) == 0 && len(r.Notes) == 0
}

// eachRun calls see with many rows of events, long and short.
func eachRun(see func(slots int64, events []impl.Event)) {
	var chance steps
	for round := range int64(300) {
		slots := 1 + round%12
		count := []int64{0, 1, 9, 40, 200, 400}[chance.below(6)]
		see(slots, chanceEvents(&chance, slots, count))
	}
}

// Promise 1: rows of events answer what the document tells, the same twice, in
// memory of their own.
func TestRunKernelIsAsTold(t *testing.T) {
	eachRun(func(slots int64, events []impl.Event) {
		want := toldRun(slots, events)
		whole, part := spareOf(events, tickOf(mark, mark))
		before := slices.Clone(whole)
		first, second := impl.RunKernel(slots, part), impl.RunKernel(slots, part)
		if !sameRuns(first, want) || !sameRuns(second, want) {
			t.Fatalf("%d slots, %v: %v and %v, want %v", slots, events, first, second, want)
		}
		scribbleKernel(first.Kernel)
		scribble(first.Codes)
		scribbleOf(first.Notes, markedNote)
		if !slices.Equal(whole, before) || !sameRuns(second, want) {
			t.Fatalf("%d slots, %v: the argument was turned, or an answer is shared", slots, events)
		}
	})
}

// An EvCall that is refused in each way, a tick that is, and what they leave.
func TestRunKernelGoesOnBehindACode(t *testing.T) {
	events := []impl.Event{
		callOf(impl.CallTake, 0, 0, 0), callOf(impl.CallCreate, 0, 0, 0), callOf(impl.CallCreate, 0, 0, 0), callOf(impl.CallTake, 0, 0, 0),
		callOf(impl.CallTake, 0, 1, 0), callOf(impl.CallTake, 0, 12, 0), callOf(9, 0, 0, 0), tickOf(impl.ActWork, 0),
		tickOf(impl.ActWork, 1), tickOf(impl.ActYield, 4), {}, tickOf(impl.ActReturn, 0), callOf(impl.CallFree, 1, 0, 0), callOf(impl.CallMove, 0, 0, 1),
	}
	want := impl.RunResult{
		Kernel: withAccount(kernelOf(2, nobody, []int64{0}, 0), 0, accountOf(1, 0, 0, 0)),
		Codes: []int64{
			impl.ErrNone, impl.OK, impl.ErrTaken, impl.OK, impl.ErrNone, impl.ErrRange, impl.ErrForm, impl.OK,
			impl.ErrForm, impl.ErrRange, impl.ErrForm, impl.OK, impl.ErrNone, impl.ErrNone,
		},
		Notes: []impl.Note{noteOf(0, 0, impl.NoteRun), noteOf(1, 0, impl.NoteReturn)},
	}
	if r := impl.RunKernel(1, events); !sameRuns(r, want) {
		t.Errorf("%v, want %v", r, want)
	}
}

func TestRunKernelHasItsBounds(t *testing.T) {
	work := slices.Repeat([]impl.Event{tickOf(impl.ActWork, 0)}, 401)
	r := impl.RunKernel(12, work[:400])
	if r.Code != impl.OK || r.Kernel.Tick != 400 || len(r.Codes) != 400 || len(r.Notes) != 45 {
		t.Error("the most events", r)
	}
	if r := impl.RunKernel(12, work); !isBareRun(r, impl.ErrMany) {
		t.Error("one more", r)
	}
	// An event that would be refused counts as well as any other.
	if r := impl.RunKernel(1, make([]impl.Event, 400)); r.Code != impl.OK || !slices.Equal(r.Codes, repeat(impl.ErrForm, 400)) || r.Kernel.Tick != 0 {
		t.Error("the most events that are none", r)
	}
	if r := impl.RunKernel(1, make([]impl.Event, 401)); !isBareRun(r, impl.ErrMany) {
		t.Error("one more that is none", r)
	}
	for _, slots := range []int64{lowest, -1, 0, 13, 1<<32 + 1, highest} {
		for _, events := range [][]impl.Event{nil, work[:1], work} {
			if r := impl.RunKernel(slots, events); !isBareRun(r, impl.ErrMany) {
				t.Error(slots, "slots", r)
			}
		}
	}
	for _, events := range [][]impl.Event{nil, {}} {
		if r := impl.RunKernel(3, events); !sameRuns(r, impl.RunResult{Kernel: impl.NewKernel(3).Kernel}) {
			t.Error("no events", r)
		}
	}
}

// Promise 4: a call or a tick that is refused turns nothing: a row of events
// comes to the same without those that have a code.
func TestRefusedEventsTurnNothing(t *testing.T) {
	refusals := 0
	eachRun(func(slots int64, events []impl.Event) {
		r := impl.RunKernel(slots, events)
		var done []impl.Event
		for i, e := range events {
			if r.Codes[i] == impl.OK {
				done = append(done, e)
			}
		}
		refusals += len(events) - len(done)
		s := impl.RunKernel(slots, done)
		if !sameFields(r.Kernel, s.Kernel) || !slices.Equal(r.Notes, s.Notes) || !slices.Equal(s.Codes, repeat(impl.OK, len(done))) {
			t.Fatal(slots, events, r, "but without what was refused", s)
		}
	})
	if refusals < 1000 {
		t.Error("too few refusals to tell:", refusals)
	}
}

// whoUsed is who has a use or an excess more, once; it fails if anything else
// of what was used is turned.
func whoUsed(t *testing.T, before impl.Kernel, after impl.Kernel) int64 {
	t.Helper()
	who := int64(nobody)
	for env := range before.Accounts {
		a, b := before.Accounts[env], after.Accounts[env]
		if rise := b.Used + b.Excess - a.Used - a.Excess; rise == 1 && who == nobody {
			who = int64(env)
		} else if rise != 0 {
			t.Fatal("a tick was used more than once", before, after)
		}
	}
	return who
}

// Promise 4: a tick is one tick, used by who acts, or by nobody; calls take no
// time, and use none.
func TestATickIsOneTick(t *testing.T) {
	eachRun(func(slots int64, events []impl.Event) {
		k := impl.NewKernel(slots).Kernel
		for _, e := range events {
			r := impl.DoTick(k, e.Act)
			if e.Kind == impl.EvCall {
				r = impl.DoCall(k, e.Call)
			}
			if impl.EventFault(e) != impl.OK || r.Code != impl.OK {
				continue
			}
			if e.Kind == impl.EvCall && (r.Kernel.Tick != k.Tick || len(r.Notes) != 0) {
				t.Fatal("a call took time", k, e, r)
			}
			if e.Kind == impl.EvTick {
				checkTick(t, k, e.Act, r)
			}
			k = r.Kernel
		}
	})
}

func checkTick(t *testing.T, k impl.Kernel, a impl.Act, r impl.KernelResult) {
	t.Helper()
	acts := k.Run
	if k.Tick%impl.Window == 0 {
		if first := r.Notes[0]; first.Kind == impl.NoteRun {
			acts = first.Env
		}
	}
	passed := slices.ContainsFunc(r.Notes, func(n impl.Note) bool { return n.Kind == impl.NoteYield || n.Kind == impl.NoteReturn })
	want := acts
	if passed {
		want = nobody
	}
	if used := whoUsed(t, k, r.Kernel); used != want || r.Kernel.Tick != k.Tick+1 {
		t.Fatal(a, "of", k, "was used by", used, "but it was", want, "who acted", r)
	}
	if !slices.Equal(k.Owners, r.Kernel.Owners) || !slices.Equal(k.Alive, r.Kernel.Alive) {
		t.Fatal("a tick turned slots or lives", k, r)
	}
}

// Promise 4: each window begins with one note, just as long behind the one
// ahead of it as a window is; nobody runs from one window into the next.
func TestEachWindowBeginsWithOneNote(t *testing.T) {
	eachRun(func(slots int64, events []impl.Event) {
		r := impl.RunKernel(slots, events)
		var begun []int64
		for i, n := range r.Notes {
			if i > 0 && n.Tick < r.Notes[i-1].Tick {
				t.Fatal("notes do not stand in order", r.Notes)
			}
			switch n.Kind {
			case impl.NoteRun, impl.NoteSkip, impl.NoteIdle:
				if i > 0 && r.Notes[i-1].Tick == n.Tick {
					t.Fatal("a window begins behind another note of its tick", r.Notes)
				}
				begun = append(begun, n.Tick)
			case impl.NoteForced, impl.NoteDropped:
				if n.Tick%9 != 8 {
					t.Fatal("a window ends too early", r.Notes)
				}
			}
		}
		var want []int64
		for tick := int64(0); tick < r.Kernel.Tick; tick += 9 {
			want = append(want, tick)
		}
		if !slices.Equal(begun, want) {
			t.Fatal("windows begin at", begun, "want", want)
		}
		if r.Kernel.Tick%9 == 0 && r.Kernel.Run != nobody {
			t.Fatal("somebody runs into the next window", r.Kernel)
		}
	})
}

// Promise 1: the functions that only look change nothing.
func TestLookingAtKernelsChangesNothing(t *testing.T) {
	var chance steps
	for range 300 {
		whole, part := spareKernel(chanceKernel(&chance))
		before := cloneKernel(whole)
		first, second := impl.KernelFault(part), impl.KernelFault(part)
		same := impl.SameKernels(part, part) && impl.SameKernels(part, cloneKernel(part)) && impl.SameKernels(cloneKernel(part), part)
		if first != second || !same || !sameFields(whole, before) {
			t.Fatal("turned by a look", before, whole, first, second, same)
		}
	}
}
