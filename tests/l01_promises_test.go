package tests

import (
	"reflect"
	"slices"
	"testing"

	"loop.example/g00789/impl"
)

// told is what the document says of a call on a vector, read word for word and
// apart from the program.
func told(c callCase) (int64, []int64) {
	if code := toldFault(c.owners); code != impl.OK {
		return code, nil
	}
	isEnv := func(env int64) bool { return 0 <= env && env <= impl.MaxEnvs-1 }
	if !isEnv(c.env) || c.call == "move" && !isEnv(c.to) {
		return impl.ErrRange, nil
	}
	list := slices.Clone(c.owners)
	if c.call == "drop" {
		for i := range list {
			if list[i] == c.env {
				list[i] = impl.Free
			}
		}
		return impl.OK, list
	}
	if c.slot < 0 || int64(len(list))-1 < c.slot {
		return impl.ErrNone, nil
	}
	owner := &list[c.slot]
	switch {
	case c.call == "take" && *owner != impl.Free:
		return impl.ErrTaken, nil
	case c.call == "take" && toldCount(list, c.env) == impl.MaxOwn:
		return impl.ErrFull, nil
	case c.call == "take":
		*owner = c.env
	case *owner != c.env:
		return impl.ErrOwner, nil
	case c.call == "free":
		*owner = impl.Free
	case c.to != c.env && toldCount(list, c.to) == impl.MaxOwn:
		return impl.ErrFull, nil
	default:
		*owner = c.to
	}
	return impl.OK, list
}

func toldCount(owners []int64, env int64) int64 {
	count := int64(0)
	for _, owner := range owners {
		if owner == env {
			count++
		}
	}
	return count
}

func toldFault(owners []int64) int64 {
	if len(owners) == 0 || len(owners) > impl.MaxSlots {
		return impl.ErrMany
	}
	if slices.ContainsFunc(owners, func(owner int64) bool { return owner < impl.Free || owner >= impl.MaxEnvs }) {
		return impl.ErrRange
	}
	for env := int64(0); env < impl.MaxEnvs; env++ {
		if toldCount(owners, env) > impl.MaxOwn {
			return impl.ErrFull
		}
	}
	return impl.OK
}

// checkCase asks a call twice, of memory that would show a change, and holds
// the answers against what the document tells.
func checkCase(t *testing.T, c callCase) {
	t.Helper()
	code, list := told(c)
	whole, part := spare(c.owners)
	before := slices.Clone(whole)
	c.owners = part
	first, second := c.answer(), c.answer()
	if first.Code != code || !slices.Equal(first.List, list) || !reflect.DeepEqual(first, second) {
		t.Fatalf("%s: %v and %v, want %d %v", c.name(), first, second, code, list)
	}
	if code == impl.OK && toldFault(first.List) != impl.OK {
		t.Fatalf("%s: the answer %v has a fault", c.name(), first.List)
	}
	scribble(first.List)
	if !slices.Equal(whole, before) {
		t.Fatalf("%s: the argument was turned or is shared: %v", c.name(), whole)
	}
	scribble(whole)
	if !slices.Equal(second.List, list) {
		t.Fatalf("%s: an answer is shared: %v", c.name(), second.List)
	}
}

func checkVector(t *testing.T, owners []int64, envs []int64, slots []int64) {
	t.Helper()
	fault := toldFault(owners)
	wantCode(t, "fault", impl.VectorFault(owners), fault)
	for _, env := range envs {
		count := impl.IntResult{Code: fault}
		switch {
		case fault == impl.OK && (env < 0 || env >= impl.MaxEnvs):
			count.Code = impl.ErrRange
		case fault == impl.OK:
			count.Value = toldCount(owners, env)
		}
		if r := impl.CountSlots(owners, env); r != count {
			t.Fatal("count", owners, env, r, "want", count)
		}
		checkCase(t, callCase{call: "drop", owners: owners, env: env})
		for _, slot := range slots {
			checkCase(t, callCase{call: "take", owners: owners, env: env, slot: slot})
			checkCase(t, callCase{call: "free", owners: owners, env: env, slot: slot})
			for _, to := range envs {
				checkCase(t, callCase{call: "move", owners: owners, env: env, slot: slot, to: to})
			}
		}
	}
}

// Promise 1: every small vector, with owners, environments and slots on both
// sides of each bound.
func TestEveryCallOnSmallVectors(t *testing.T) {
	envs := []int64{lowest, -2, free, 0, 1, 2, 3, 4, highest}
	for size := 0; size <= 3; size++ {
		slots := []int64{lowest, -1, 0, 1, 2, 3, 4, highest}
		eachList(size, []int64{-2, free, 0, 3, 4}, func(owners []int64) {
			checkVector(t, owners, envs, slots)
		})
	}
}

// Promise 1: long vectors, in which somebody often owns the most or more.
func TestEveryCallOnLongVectors(t *testing.T) {
	var chance steps
	envs := []int64{free, 0, 1, 2, 3, 4}
	for range 400 {
		owners := make([]int64, 6+chance.below(8))
		for i := range owners {
			owners[i] = chance.below(5) - 1
			if chance.below(3) > 0 {
				owners[i] = chance.below(2)
			}
		}
		checkVector(t, owners, envs, []int64{-1, 0, 5, int64(len(owners)) - 1, int64(len(owners)), 12})
	}
}

// Promise 1: the functions that only look change nothing, and no two new
// vectors share memory.
func TestLookingChangesNothing(t *testing.T) {
	for _, owners := range [][]int64{{0, 1, free}, {4}, repeat(0, 7), repeat(free, 13), {}} {
		whole, part := spare(owners)
		before := slices.Clone(whole)
		impl.VectorFault(part)
		impl.CountSlots(part, 0)
		impl.SameInts(part, part)
		impl.SameInts(part, owners)
		if !slices.Equal(whole, before) {
			t.Error("turned by a look", owners, whole)
		}
	}
	first, second := impl.NewVector(12), impl.NewVector(12)
	scribble(first.List)
	if third := impl.NewVector(12); !slices.Equal(second.List, repeat(free, 12)) || !slices.Equal(third.List, repeat(free, 12)) {
		t.Error("new vectors share memory", second, third)
	}
}

// Promise 2: what was taken is free again behind being freed, what was moved
// comes back by being moved, and no other slot is turned.
func TestTakenIsFreeAgain(t *testing.T) {
	turned := func(owners []int64, list []int64, slot int64) bool {
		for i := range owners {
			if int64(i) != slot && owners[i] != list[i] {
				return true
			}
		}
		return len(owners) != len(list)
	}
	eachList(4, []int64{free, 0, 1, 2, 3}, func(owners []int64) {
		for env := int64(0); env < impl.MaxEnvs; env++ {
			for slot := int64(0); slot < 4; slot++ {
				if taken := impl.TakeSlot(owners, env, slot); taken.Code == impl.OK {
					freed := impl.FreeSlot(taken.List, env, slot)
					if taken.List[slot] != env || turned(owners, taken.List, slot) || freed.Code != impl.OK || !slices.Equal(freed.List, owners) {
						t.Fatal("take and free", owners, env, slot, taken, freed)
					}
				}
				for to := int64(0); to < impl.MaxEnvs; to++ {
					if moved := impl.MoveSlot(owners, env, slot, to); moved.Code == impl.OK {
						back := impl.MoveSlot(moved.List, to, slot, env)
						if moved.List[slot] != to || turned(owners, moved.List, slot) || back.Code != impl.OK || !slices.Equal(back.List, owners) {
							t.Fatal("move and back", owners, env, slot, to, moved, back)
						}
					}
				}
			}
		}
	})
}

// Promise 2: nobody takes, frees or moves what is another one's.
func TestNobodyTurnsAnothersSlot(t *testing.T) {
	eachList(3, []int64{free, 0, 1, 3}, func(owners []int64) {
		for env := int64(0); env < impl.MaxEnvs; env++ {
			for slot, owner := range owners {
				if owner == env {
					continue
				}
				if r := impl.FreeSlot(owners, env, int64(slot)); r.Code != impl.ErrOwner || r.List != nil {
					t.Fatal("free", owners, env, slot, r)
				}
				if r := impl.MoveSlot(owners, env, int64(slot), env); r.Code != impl.ErrOwner || r.List != nil {
					t.Fatal("move", owners, env, slot, r)
				}
				if r := impl.TakeSlot(owners, env, int64(slot)); (r.Code == impl.OK) != (owner == free) {
					t.Fatal("take", owners, env, slot, r)
				}
				if r := impl.DropSlots(owners, env); r.Code != impl.OK || r.List[slot] != owner {
					t.Fatal("drop", owners, env, slot, r)
				}
			}
		}
	})
}
