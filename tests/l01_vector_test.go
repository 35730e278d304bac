package tests

import (
	"slices"
	"strconv"
	"testing"

	"loop.example/g00789/impl"
)

const free = impl.Free

func repeat(owner int64, times int) []int64 {
	return slices.Repeat([]int64{owner}, times)
}

func join(lists ...[]int64) []int64 {
	return slices.Concat(lists...)
}

func TestNumbersOfTheDocument(t *testing.T) {
	got := []int64{
		impl.OK, impl.ErrForm, impl.ErrMany, impl.ErrRange, impl.ErrNone, impl.ErrText, impl.ErrTaken,
		impl.ErrOwner, impl.ErrFull, impl.ErrState, impl.MaxSlots, impl.MaxEnvs, impl.MaxOwn, impl.Free,
	}
	want := []int64{0, 1, 2, 3, 4, 5, 6, 7, 8, 9, 12, 4, 6, -1}
	if !slices.Equal(got, want) {
		t.Error("constants", got, "want", want)
	}
}

func TestVectorFault(t *testing.T) {
	cases := []struct {
		name   string
		owners []int64
		want   int64
	}{
		{"nil", nil, impl.ErrMany},
		{"empty", []int64{}, impl.ErrMany},
		{"one free slot", []int64{free}, impl.OK},
		{"one slot of the first", []int64{0}, impl.OK},
		{"one slot of the last", []int64{3}, impl.OK},
		{"all kinds", []int64{3, free, 0, 2, 1}, impl.OK},
		{"the most slots, free", repeat(free, 12), impl.OK},
		{"the most slots, two own the most", join(repeat(1, 6), repeat(2, 6)), impl.OK},
		{"one slot too many", repeat(free, 13), impl.ErrMany},
		{"far too many", repeat(free, 100000), impl.ErrMany},
		{"no environment above", []int64{4}, impl.ErrRange},
		{"no environment below", []int64{-2}, impl.ErrRange},
		{"the lowest number", []int64{lowest}, impl.ErrRange},
		{"the highest number", []int64{highest}, impl.ErrRange},
		{"a bad first one", []int64{4, 0, 1}, impl.ErrRange},
		{"a bad last one", []int64{0, 1, -2}, impl.ErrRange},
		{"a bad last one of the most", join(repeat(free, 11), []int64{4}), impl.ErrRange},
		{"six of one", repeat(0, 6), impl.OK},
		{"seven of one", repeat(0, 7), impl.ErrFull},
		{"seven of the last", join([]int64{0}, repeat(3, 7)), impl.ErrFull},
		{"seven apart", []int64{1, 0, 1, 0, 1, 0, 1, 0, 1, free, 1, 1}, impl.ErrFull},
		{"seven of both", repeat(2, 12), impl.ErrFull},
		{"many and range", repeat(4, 13), impl.ErrMany},
		{"many and full", repeat(0, 13), impl.ErrMany},
		{"full and then range", join(repeat(0, 7), []int64{4}), impl.ErrRange},
		{"range and then full", join([]int64{-2}, repeat(0, 7)), impl.ErrRange},
	}
	for _, c := range cases {
		wantCode(t, c.name, impl.VectorFault(c.owners), c.want)
	}
	for env := int64(0); env < impl.MaxEnvs; env++ {
		wantCode(t, "the most of one", impl.VectorFault(repeat(env, 6)), impl.OK)
		wantCode(t, "more than the most of one", impl.VectorFault(repeat(env, 7)), impl.ErrFull)
	}
}

func TestNewVector(t *testing.T) {
	for slots := int64(1); slots <= impl.MaxSlots; slots++ {
		r := impl.NewVector(slots)
		if r.Code != impl.OK || !slices.Equal(r.List, repeat(free, int(slots))) {
			t.Error("a new vector of", slots, r)
		}
	}
	for _, slots := range []int64{lowest, -13, -1, 0, 13, 14, 1 << 32, 1<<32 + 1, highest} {
		if r := impl.NewVector(slots); r.Code != impl.ErrMany || len(r.List) != 0 {
			t.Error("a new vector of", slots, r)
		}
	}
}

// callCase is a call by its name, so that one table holds all of them.
type callCase struct {
	call   string
	owners []int64
	env    int64
	slot   int64
	to     int64
	code   int64
	list   []int64
}

func (c callCase) name() string {
	name := c.call
	for _, number := range append(slices.Clone(c.owners), c.env, c.slot, c.to) {
		name += " " + strconv.FormatInt(number, 10)
	}
	return name
}

func (c callCase) answer() impl.IntsResult {
	switch c.call {
	case "take":
		return impl.TakeSlot(c.owners, c.env, c.slot)
	case "free":
		return impl.FreeSlot(c.owners, c.env, c.slot)
	case "move":
		return impl.MoveSlot(c.owners, c.env, c.slot, c.to)
	}
	return impl.DropSlots(c.owners, c.env)
}

func checkCalls(t *testing.T, cases []callCase) {
	t.Helper()
	for _, c := range cases {
		r := c.answer()
		if r.Code != c.code || !slices.Equal(r.List, c.list) {
			t.Errorf("%s: %v, want %d %v", c.name(), r, c.code, c.list)
		}
	}
}

func TestTakeSlot(t *testing.T) {
	six := join(repeat(1, 6), []int64{free, 2})
	checkCalls(t, []callCase{
		{call: "take", owners: []int64{free, free}, env: 0, slot: 1, list: []int64{free, 0}},
		{call: "take", owners: []int64{free}, env: 3, slot: 0, list: []int64{3}},
		{call: "take", owners: repeat(free, 12), env: 2, slot: 11, list: join(repeat(free, 11), []int64{2})},
		{call: "take", owners: join(repeat(1, 5), []int64{free}), env: 1, slot: 5, list: repeat(1, 6)},
		{call: "take", owners: six, env: 1, slot: 6, code: impl.ErrFull},
		{call: "take", owners: six, env: 2, slot: 6, list: join(repeat(1, 6), []int64{2, 2})},
		{call: "take", owners: six, env: 1, slot: 7, code: impl.ErrTaken},
		{call: "take", owners: six, env: 1, slot: 0, code: impl.ErrTaken},
		{call: "take", owners: []int64{0}, env: 0, slot: 0, code: impl.ErrTaken},
		{call: "take", owners: []int64{2}, env: 0, slot: 0, code: impl.ErrTaken},
	})
}

func TestFreeSlot(t *testing.T) {
	checkCalls(t, []callCase{
		{call: "free", owners: []int64{0}, env: 0, slot: 0, list: []int64{free}},
		{call: "free", owners: []int64{2, 2, 1}, env: 2, slot: 1, list: []int64{2, free, 1}},
		{call: "free", owners: join(repeat(free, 11), []int64{3}), env: 3, slot: 11, list: repeat(free, 12)},
		{call: "free", owners: repeat(1, 6), env: 1, slot: 0, list: join([]int64{free}, repeat(1, 5))},
		{call: "free", owners: []int64{1}, env: 0, slot: 0, code: impl.ErrOwner},
		{call: "free", owners: []int64{free, 0}, env: 0, slot: 0, code: impl.ErrOwner},
	})
}

func TestMoveSlot(t *testing.T) {
	six := join(repeat(1, 6), []int64{free, 2})
	checkCalls(t, []callCase{
		{call: "move", owners: []int64{0}, env: 0, slot: 0, to: 3, list: []int64{3}},
		{call: "move", owners: []int64{0, 2, free}, env: 2, slot: 1, to: 0, list: []int64{0, 0, free}},
		{call: "move", owners: []int64{0, 2, 0}, env: 0, slot: 2, to: 0, list: []int64{0, 2, 0}},
		{call: "move", owners: join(repeat(free, 11), []int64{1}), env: 1, slot: 11, to: 2, list: join(repeat(free, 11), []int64{2})},
		{call: "move", owners: six, env: 2, slot: 7, to: 1, code: impl.ErrFull},
		{call: "move", owners: six, env: 1, slot: 5, to: 1, list: six},
		{call: "move", owners: six, env: 1, slot: 0, to: 2, list: join([]int64{2}, repeat(1, 5), []int64{free, 2})},
		{call: "move", owners: join(repeat(1, 5), []int64{2}), env: 2, slot: 5, to: 1, list: repeat(1, 6)},
		{call: "move", owners: six, env: 1, slot: 6, to: 2, code: impl.ErrOwner},
		{call: "move", owners: six, env: 0, slot: 7, to: 1, code: impl.ErrOwner},
		{call: "move", owners: six, env: 0, slot: 7, to: 0, code: impl.ErrOwner},
		{call: "move", owners: six, env: 1, slot: 7, to: 2, code: impl.ErrOwner},
	})
}

func TestDropSlots(t *testing.T) {
	mixed := []int64{0, 1, free, 0, 3, 0}
	checkCalls(t, []callCase{
		{call: "drop", owners: mixed, env: 0, list: []int64{free, 1, free, free, 3, free}},
		{call: "drop", owners: mixed, env: 1, list: []int64{0, free, free, 0, 3, 0}},
		{call: "drop", owners: mixed, env: 2, list: mixed},
		{call: "drop", owners: []int64{3}, env: 3, list: []int64{free}},
		{call: "drop", owners: join(repeat(1, 6), repeat(2, 6)), env: 2, list: join(repeat(1, 6), repeat(free, 6))},
		{call: "drop", owners: mixed, env: 4, code: impl.ErrRange},
		{call: "drop", owners: mixed, env: free, code: impl.ErrRange},
		{call: "drop", owners: nil, env: 4, code: impl.ErrMany},
		{call: "drop", owners: []int64{4}, env: 4, code: impl.ErrRange},
		{call: "drop", owners: repeat(0, 7), env: 4, code: impl.ErrFull},
		{call: "drop", owners: repeat(0, 7), env: 0, code: impl.ErrFull},
	})
}

func TestCountSlots(t *testing.T) {
	mixed := []int64{0, 1, free, 0, 3, 0, free}
	most := join(repeat(1, 6), repeat(2, 6))
	cases := []struct {
		owners []int64
		env    int64
		want   impl.IntResult
	}{
		{mixed, 0, impl.IntResult{Value: 3}},
		{mixed, 1, impl.IntResult{Value: 1}},
		{mixed, 2, impl.IntResult{}},
		{mixed, 3, impl.IntResult{Value: 1}},
		{most, 0, impl.IntResult{}},
		{most, 1, impl.IntResult{Value: 6}},
		{most, 2, impl.IntResult{Value: 6}},
		{[]int64{free}, 0, impl.IntResult{}},
		{mixed, free, impl.IntResult{Code: impl.ErrRange}},
		{mixed, 4, impl.IntResult{Code: impl.ErrRange}},
		{mixed, lowest, impl.IntResult{Code: impl.ErrRange}},
		{mixed, highest, impl.IntResult{Code: impl.ErrRange}},
		{nil, 0, impl.IntResult{Code: impl.ErrMany}},
		{repeat(0, 13), 4, impl.IntResult{Code: impl.ErrMany}},
		{[]int64{0, 4}, 0, impl.IntResult{Code: impl.ErrRange}},
		{repeat(0, 7), 0, impl.IntResult{Code: impl.ErrFull}},
		{repeat(0, 7), -1, impl.IntResult{Code: impl.ErrFull}},
	}
	for _, c := range cases {
		if r := impl.CountSlots(c.owners, c.env); r != c.want {
			t.Error("count", c.owners, c.env, r, "want", c.want)
		}
	}
}

// Each row has the fault of its code and those of all codes behind it.
func TestCodesStandInTheOrderOfTheDocument(t *testing.T) {
	many, bad, full := repeat(7, 13), join(repeat(0, 7), []int64{7}), repeat(0, 7)
	six := join(repeat(1, 6), []int64{free, 2})
	checkCalls(t, []callCase{
		{call: "take", owners: nil, env: 4, slot: -1, code: impl.ErrMany},
		{call: "take", owners: many, env: 4, slot: 13, code: impl.ErrMany},
		{call: "take", owners: bad, env: 0, slot: 8, code: impl.ErrRange},
		{call: "take", owners: full, env: 4, slot: 7, code: impl.ErrFull},
		{call: "take", owners: full, env: 0, slot: 7, code: impl.ErrFull},
		{call: "take", owners: six, env: 4, slot: 8, code: impl.ErrRange},
		{call: "take", owners: six, env: -1, slot: -1, code: impl.ErrRange},
		{call: "take", owners: six, env: 4, slot: 0, code: impl.ErrRange},
		{call: "take", owners: six, env: 1, slot: 8, code: impl.ErrNone},
		{call: "take", owners: six, env: 1, slot: -1, code: impl.ErrNone},
		{call: "take", owners: six, env: 1, slot: highest, code: impl.ErrNone},
		{call: "take", owners: six, env: 1, slot: lowest, code: impl.ErrNone},
		{call: "free", owners: nil, env: 4, slot: 0, code: impl.ErrMany},
		{call: "free", owners: many, env: 4, slot: 13, code: impl.ErrMany},
		{call: "free", owners: bad, env: 0, slot: 8, code: impl.ErrRange},
		{call: "free", owners: full, env: 4, slot: 0, code: impl.ErrFull},
		{call: "free", owners: six, env: free, slot: 6, code: impl.ErrRange},
		{call: "free", owners: six, env: 4, slot: 8, code: impl.ErrRange},
		{call: "free", owners: six, env: 1, slot: 8, code: impl.ErrNone},
		{call: "free", owners: six, env: 1, slot: -1, code: impl.ErrNone},
		{call: "free", owners: six, env: 1, slot: highest, code: impl.ErrNone},
		{call: "free", owners: six, env: 1, slot: lowest, code: impl.ErrNone},
		{call: "move", owners: nil, env: 4, slot: 0, to: 4, code: impl.ErrMany},
		{call: "move", owners: many, env: 4, slot: 13, to: 4, code: impl.ErrMany},
		{call: "move", owners: bad, env: 0, slot: 8, to: 0, code: impl.ErrRange},
		{call: "move", owners: full, env: 0, slot: 7, to: 4, code: impl.ErrFull},
		{call: "move", owners: six, env: 4, slot: 8, to: 1, code: impl.ErrRange},
		{call: "move", owners: six, env: 1, slot: 8, to: 4, code: impl.ErrRange},
		{call: "move", owners: six, env: 1, slot: -1, to: free, code: impl.ErrRange},
		{call: "move", owners: six, env: 1, slot: 0, to: free, code: impl.ErrRange},
		{call: "move", owners: six, env: 1, slot: 0, to: highest, code: impl.ErrRange},
		{call: "move", owners: six, env: free, slot: 6, to: 1, code: impl.ErrRange},
		{call: "move", owners: six, env: 2, slot: 8, to: 1, code: impl.ErrNone},
		{call: "move", owners: six, env: 2, slot: -1, to: 1, code: impl.ErrNone},
		{call: "move", owners: six, env: 2, slot: highest, to: 1, code: impl.ErrNone},
		{call: "move", owners: six, env: 2, slot: lowest, to: 1, code: impl.ErrNone},
		{call: "move", owners: six, env: 2, slot: 6, to: 1, code: impl.ErrOwner},
	})
}

func TestSameInts(t *testing.T) {
	cases := []struct {
		a, b []int64
		want bool
	}{
		{nil, nil, true},
		{nil, []int64{}, true},
		{[]int64{}, nil, true},
		{nil, []int64{0}, false},
		{[]int64{0}, nil, false},
		{[]int64{free, 0, 3}, []int64{free, 0, 3}, true},
		{[]int64{1, 2}, []int64{2, 1}, false},
		{[]int64{1, 2}, []int64{1, 2, 2}, false},
		{[]int64{1, 2, 0}, []int64{1, 2}, false},
		{[]int64{1, 2, 3}, []int64{0, 2, 3}, false},
		{[]int64{1, 2, 3}, []int64{1, 2, 0}, false},
		{[]int64{lowest, highest}, []int64{lowest, highest}, true},
		{[]int64{lowest}, []int64{highest}, false},
		{[]int64{0}, []int64{1 << 32}, false},
		{repeat(99, 1000), repeat(99, 1000), true},
		{repeat(99, 1000), join(repeat(99, 999), []int64{98}), false},
	}
	for _, c := range cases {
		if got := impl.SameInts(c.a, c.b); got != c.want {
			t.Error("same", c.a, c.b, got)
		}
	}
}
