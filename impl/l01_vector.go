package impl

import "slices"

const OK = 0
const ErrForm = 1
const ErrMany = 2
const ErrRange = 3
const ErrNone = 4
const ErrText = 5
const ErrTaken = 6
const ErrOwner = 7
const ErrFull = 8
const ErrState = 9
const MaxSlots = 12
const MaxEnvs = 4
const MaxOwn = 6
const Free = -1

type IntResult struct {
	Code  int64
	Value int64
}
type IntsResult struct {
	Code int64
	List []int64
}

// vector holds owners that are in number and in kind as they have to be. They
// are an array, so that turning a copy leaves alone what it was copied from.
type vector struct {
	owners [MaxSlots]int64
	size   int
}

func vectorOf(owners []int64) vector {
	v := vector{size: len(owners)}
	copy(v.owners[:], owners)
	return v
}

// with turns the copy that a call by value makes, never the vector it is asked of.
func (v vector) with(slot int64, owner int64) vector {
	v.owners[slot] = owner
	return v
}

func (v vector) counts() [MaxEnvs]int64 {
	var counts [MaxEnvs]int64
	for _, owner := range v.owners[:v.size] {
		if owner != Free {
			counts[owner]++
		}
	}
	return counts
}

func (v vector) isFull(env int64) bool {
	return v.counts()[env] >= MaxOwn
}

func (v vector) answer() IntsResult {
	list := make([]int64, v.size)
	copy(list, v.owners[:v.size])
	return IntsResult{List: list}
}

func isEnv(env int64) bool {
	return env >= 0 && env < MaxEnvs
}

func anyAbove(most int64, counts ...int64) bool {
	for _, count := range counts {
		if count > most {
			return true
		}
	}
	return false
}

// envsFault takes as many environments as a call names: a move names two, and
// both are asked ahead of the slot.
func envsFault(owners []int64, envs ...int64) int64 {
	if code := VectorFault(owners); code != OK {
		return code
	}
	for _, env := range envs {
		if !isEnv(env) {
			return ErrRange
		}
	}
	return OK
}

func slotFault(owners []int64, slot int64, envs ...int64) int64 {
	if code := envsFault(owners, envs...); code != OK {
		return code
	}
	if slot < 0 || slot >= int64(len(owners)) {
		return ErrNone
	}
	return OK
}

func VectorFault(owners []int64) int64 {
	if len(owners) < 1 || len(owners) > MaxSlots {
		return ErrMany
	}
	for _, owner := range owners {
		if owner != Free && !isEnv(owner) {
			return ErrRange
		}
	}
	counts := vectorOf(owners).counts()
	if anyAbove(MaxOwn, counts[:]...) {
		return ErrFull
	}
	return OK
}

func NewVector(slots int64) IntsResult {
	if slots < 1 || slots > MaxSlots {
		return IntsResult{Code: ErrMany}
	}
	v := vector{size: int(slots)}
	for slot := range slots {
		v = v.with(slot, Free)
	}
	return v.answer()
}

func TakeSlot(owners []int64, env int64, slot int64) IntsResult {
	if code := slotFault(owners, slot, env); code != OK {
		return IntsResult{Code: code}
	}
	v := vectorOf(owners)
	if v.owners[slot] != Free {
		return IntsResult{Code: ErrTaken}
	}
	if v.isFull(env) {
		return IntsResult{Code: ErrFull}
	}
	return v.with(slot, env).answer()
}

func FreeSlot(owners []int64, env int64, slot int64) IntsResult {
	if code := slotFault(owners, slot, env); code != OK {
		return IntsResult{Code: code}
	}
	v := vectorOf(owners)
	if v.owners[slot] != env {
		return IntsResult{Code: ErrOwner}
	}
	return v.with(slot, Free).answer()
}

func MoveSlot(owners []int64, env int64, slot int64, to int64) IntsResult {
	if code := slotFault(owners, slot, env, to); code != OK {
		return IntsResult{Code: code}
	}
	v := vectorOf(owners)
	if v.owners[slot] != env {
		return IntsResult{Code: ErrOwner}
	}
	// A move to itself adds no slot, so even one that owns as many as it may does it.
	if to != env && v.isFull(to) {
		return IntsResult{Code: ErrFull}
	}
	return v.with(slot, to).answer()
}

func DropSlots(owners []int64, env int64) IntsResult {
	if code := envsFault(owners, env); code != OK {
		return IntsResult{Code: code}
	}
	v := vectorOf(owners)
	for slot, owner := range owners {
		if owner == env {
			v = v.with(int64(slot), Free)
		}
	}
	return v.answer()
}

func CountSlots(owners []int64, env int64) IntResult {
	if code := envsFault(owners, env); code != OK {
		return IntResult{Code: code}
	}
	return IntResult{Value: vectorOf(owners).counts()[env]}
}

func SameInts(a []int64, b []int64) bool {
	return slices.Equal(a, b)
}
