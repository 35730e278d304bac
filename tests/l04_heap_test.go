package tests

import (
	"slices"
	"testing"

	"loop.example/g00789/impl"
)

const (
	mostPass = 100000000
	mostId   = 99
)

func entryOf(pass int64, id int64) impl.Entry {
	return impl.Entry{Pass: pass, Id: id}
}

// entries are told by a Pass and an Id each, one behind the other.
func entries(numbers ...int64) []impl.Entry {
	var list []impl.Entry
	for i := 0; i < len(numbers); i += 2 {
		list = append(list, entryOf(numbers[i], numbers[i+1]))
	}
	return list
}

// twins have the same number as Pass and as Id.
func twins(numbers ...int64) []impl.Entry {
	var list []impl.Entry
	for _, number := range numbers {
		list = append(list, entryOf(number, number))
	}
	return list
}

func with(list []impl.Entry, place int, e impl.Entry) []impl.Entry {
	list = slices.Clone(list)
	list[place] = e
	return list
}

var (
	fullHeap = twins(0, 1, 2, 3, 4, 5, 6, 7, 8, 9, 10, 11)
	longList = twins(0, 1, 2, 3, 4, 5, 6, 7, 8, 9, 10, 11, 12)
)

func wantHeap(t *testing.T, name string, got impl.HeapResult, code int64, heap []impl.Entry) {
	t.Helper()
	if got.Code != code || !slices.Equal(got.Heap, heap) {
		t.Errorf("%s: %v, want %d %v", name, got, code, heap)
	}
}

func TestNumbersOfHeaps(t *testing.T) {
	if impl.MaxHeap != 12 || impl.MaxPass != 100000000 {
		t.Error("constants", impl.MaxHeap, impl.MaxPass)
	}
}

func TestIsLess(t *testing.T) {
	cases := []struct {
		name string
		a, b impl.Entry
		want bool
	}{
		{"zero and zero", entryOf(0, 0), entryOf(0, 0), false},
		{"a pass below", entryOf(1, 5), entryOf(2, 5), true},
		{"a pass above", entryOf(2, 5), entryOf(1, 5), false},
		{"a pass below with an id above", entryOf(1, 9), entryOf(2, 3), true},
		{"a pass above with an id below", entryOf(2, 3), entryOf(1, 9), false},
		{"one pass with an id below", entryOf(7, 0), entryOf(7, 1), true},
		{"one pass with an id above", entryOf(7, 1), entryOf(7, 0), false},
		{"the same", entryOf(7, 1), entryOf(7, 1), false},
		{"the bounds", entryOf(0, 0), entryOf(mostPass, mostId), true},
		{"the bounds the other way", entryOf(mostPass, mostId), entryOf(0, 0), false},
		{"crossed bounds", entryOf(0, mostId), entryOf(mostPass, 0), true},
		{"the highest pass with both ids", entryOf(mostPass, 0), entryOf(mostPass, mostId), true},
		{"no pass at all below 0", entryOf(-1, 0), entryOf(0, 0), true},
		{"no id at all below 0", entryOf(0, -1), entryOf(0, 0), true},
		{"0 and what is below", entryOf(0, 0), entryOf(-1, 0), false},
		{"the ends of all numbers", entryOf(lowest, highest), entryOf(highest, lowest), true},
		{"the ends the other way", entryOf(highest, lowest), entryOf(lowest, highest), false},
		{"the ends of ids", entryOf(highest, lowest), entryOf(highest, highest), true},
		{"the ends of ids the other way", entryOf(lowest, highest), entryOf(lowest, lowest), false},
		{"the same at the end", entryOf(highest, highest), entryOf(highest, highest), false},
		{"beyond 32 bits", entryOf(1<<32, 0), entryOf(1, 0), false},
		{"an id beyond 32 bits", entryOf(0, 1), entryOf(0, 1<<32), true},
	}
	for _, c := range cases {
		if got := impl.IsLess(c.a, c.b); got != c.want {
			t.Errorf("%s: %v", c.name, got)
		}
	}
}

func TestHeapFault(t *testing.T) {
	cases := []struct {
		name string
		heap []impl.Entry
		want int64
	}{
		{"nil", nil, impl.OK},
		{"empty", []impl.Entry{}, impl.OK},
		{"one", entries(5, 1), impl.OK},
		{"one of zeros", entries(0, 0), impl.OK},
		{"one at its bounds", entries(mostPass, mostId), impl.OK},
		{"pass at its bound, id at 0", entries(mostPass, 0), impl.OK},
		{"id at its bound, pass at 0", entries(0, mostId), impl.OK},
		{"as many as there may be", fullHeap, impl.OK},
		{"one more", longList, impl.ErrMany},
		{"many more", make([]impl.Entry, 1000), impl.ErrMany},
		{"one more, that is not so, twice, and less", append(twins(11, 10, 9, 8, 7, 6, 5, 4, 3, 2, 1), entries(-1, 100, -1, 100)...), impl.ErrMany},
		{"pass below", entries(-1, 0), impl.ErrRange},
		{"pass above", entries(mostPass+1, 0), impl.ErrRange},
		{"id below", entries(0, -1), impl.ErrRange},
		{"id above", entries(0, 100), impl.ErrRange},
		{"both below", entries(-1, -1), impl.ErrRange},
		{"both above", entries(mostPass+1, 100), impl.ErrRange},
		{"the lowest pass", entries(lowest, 0), impl.ErrRange},
		{"the highest pass", entries(highest, 0), impl.ErrRange},
		{"the lowest id", entries(0, lowest), impl.ErrRange},
		{"the highest id", entries(0, highest), impl.ErrRange},
		{"pass beyond 32 bits", entries(1<<32, 0), impl.ErrRange},
		{"id beyond 32 bits", entries(0, 1<<32), impl.ErrRange},
		{"an id as far as a pass goes", entries(0, mostPass), impl.ErrRange},
		{"the last of a full one is not so", with(fullHeap, 11, entryOf(mostPass+1, 11)), impl.ErrRange},
		{"the last of a full one is not so by its id", with(fullHeap, 11, entryOf(11, 100)), impl.ErrRange},
		{"the first of a full one is not so", with(fullHeap, 0, entryOf(-1, 0)), impl.ErrRange},
		{"not so behind the same id", entries(1, 1, 2, 1, 3, -1), impl.ErrRange},
		{"not so ahead of the same id", entries(-1, 0, 2, 1, 3, 1), impl.ErrRange},
		{"not so behind one that is less", entries(5, 1, 4, 2, mostPass+1, 3), impl.ErrRange},
		{"not so and the same id", entries(5, 100, 5, 100), impl.ErrRange},
		{"not so and less", entries(0, 1, -1, 2), impl.ErrRange},
		{"the same twice", entries(0, 0, 0, 0), impl.ErrTaken},
		{"the same id twice", entries(1, 5, 2, 5), impl.ErrTaken},
		{"the same id at both ends", append(twins(1, 2, 3, 4, 5, 6, 7, 8, 9, 10, 11), entryOf(12, 1)), impl.ErrTaken},
		{"the same id in the last two", append(twins(1, 2, 3, 4), entries(9, 6, 9, 6)...), impl.ErrTaken},
		{"the same id twice, and less", entries(2, 5, 1, 5), impl.ErrTaken},
		{"less ahead of the same id", entries(2, 1, 1, 2, 9, 3, 9, 3), impl.ErrTaken},
		{"a child with a pass below", entries(2, 0, 1, 1), impl.ErrForm},
		{"a child with one pass and an id below", entries(2, 1, 2, 0), impl.ErrForm},
		{"a child with one pass and an id above", entries(2, 0, 2, 1), impl.OK},
		{"the second child alone is less", entries(2, 1, 3, 2, 1, 3), impl.ErrForm},
		{"the second child alone is less by its id", entries(2, 1, 3, 2, 2, 0), impl.ErrForm},
		{"children in either order", entries(1, 1, 9, 2, 3, 3), impl.OK},
		{"two children of one pass", entries(1, 1, 3, 3, 3, 2), impl.OK},
		{"less than an uncle", entries(1, 1, 5, 2, 9, 3, 6, 4), impl.OK},
		{"not less than the first, but than its parent", entries(1, 1, 5, 2, 9, 3, 4, 4), impl.ErrForm},
		{"a child alone that is less", twins(1, 2, 3, 4, 5, 6, 7, 8, 9, 10, 11, 0), impl.ErrForm},
		{"a child alone that is less than its parent only", append(twins(0, 1, 5, 6, 7, 8, 9, 10, 11, 12, 13), entryOf(4, 3)), impl.ErrForm},
		{"all of one pass, rising", entries(4, 0, 4, 1, 4, 2, 4, 3), impl.OK},
		{"all of one pass, falling", entries(4, 3, 4, 2, 4, 1, 4, 0), impl.ErrForm},
	}
	for _, c := range cases {
		wantCode(t, c.name, impl.HeapFault(c.heap), c.want)
	}
}

func TestPushHeap(t *testing.T) {
	high := twins(1, 2, 3, 4, 5, 6, 7, 8, 9, 10, 11)
	cases := []struct {
		name string
		heap []impl.Entry
		one  impl.Entry
		code int64
		want []impl.Entry
	}{
		{"into nil", nil, entryOf(5, 1), impl.OK, entries(5, 1)},
		{"into an empty one", []impl.Entry{}, entryOf(0, 0), impl.OK, entries(0, 0)},
		{"one at its bounds", nil, entryOf(mostPass, mostId), impl.OK, entries(mostPass, mostId)},
		{"a pass above", entries(5, 1), entryOf(6, 0), impl.OK, entries(5, 1, 6, 0)},
		{"a pass below", entries(5, 1), entryOf(4, 2), impl.OK, entries(4, 2, 5, 1)},
		{"one pass and an id above", entries(5, 1), entryOf(5, 2), impl.OK, entries(5, 1, 5, 2)},
		{"one pass and an id below", entries(5, 1), entryOf(5, 0), impl.OK, entries(5, 0, 5, 1)},
		{"pass 0 below the highest", entries(mostPass, 0), entryOf(0, mostId), impl.OK, entries(0, mostId, mostPass, 0)},
		{"the second child stays", entries(1, 1, 5, 5), entryOf(2, 2), impl.OK, entries(1, 1, 5, 5, 2, 2)},
		{"the second child goes up", entries(1, 1, 5, 5), entryOf(0, 2), impl.OK, entries(0, 2, 5, 5, 1, 1)},
		{"the second child goes up by its id", entries(1, 1, 5, 5), entryOf(1, 0), impl.OK, entries(1, 0, 5, 5, 1, 1)},
		{"all the way up", twins(1, 2, 3), entryOf(0, 0), impl.OK, twins(0, 1, 3, 2)},
		{"half of the way up", twins(1, 2, 3), entryOf(1, 5), impl.OK, entries(1, 1, 1, 5, 3, 3, 2, 2)},
		{"half of the way up by its id", twins(1, 2, 3), entryOf(2, 0), impl.OK, entries(1, 1, 2, 0, 3, 3, 2, 2)},
		{"not up by its id", twins(1, 2, 3), entryOf(2, 9), impl.OK, entries(1, 1, 2, 2, 3, 3, 2, 9)},
		{"the last for which there is room stays", high, entryOf(12, 12), impl.OK, append(slices.Clone(high), entryOf(12, 12))},
		{"the last for which there is room goes up", high, entryOf(0, 0), impl.OK, twins(0, 2, 1, 4, 5, 3, 7, 8, 9, 10, 11, 6)},
		{"into a full one", fullHeap, entryOf(12, 12), impl.ErrFull, nil},
		{"the least into a full one", with(fullHeap, 0, entryOf(0, 50)), entryOf(0, 0), impl.ErrFull, nil},
		{"an id that is there, into a full one", fullHeap, entryOf(99, 11), impl.ErrTaken, nil},
		{"one that is not so, into a full one", fullHeap, entryOf(-1, 12), impl.ErrRange, nil},
		{"one that is not so, with an id that is there", fullHeap, entryOf(-1, 11), impl.ErrRange, nil},
		{"an id that is there", entries(5, 1), entryOf(6, 1), impl.ErrTaken, nil},
		{"what is there", entries(5, 1), entryOf(5, 1), impl.ErrTaken, nil},
		{"an id that is there in the middle", twins(1, 2, 3), entryOf(9, 2), impl.ErrTaken, nil},
		{"an id that is there at the end", twins(1, 2, 3), entryOf(9, 3), impl.ErrTaken, nil},
		{"a pass that is there alone", twins(1, 2, 3), entryOf(3, 4), impl.OK, entries(1, 1, 2, 2, 3, 3, 3, 4)},
		{"a pass below 0", nil, entryOf(-1, 0), impl.ErrRange, nil},
		{"a pass above its bound", nil, entryOf(mostPass+1, 0), impl.ErrRange, nil},
		{"an id below 0", nil, entryOf(0, -1), impl.ErrRange, nil},
		{"an id above its bound", nil, entryOf(0, 100), impl.ErrRange, nil},
		{"both far below", nil, entryOf(lowest, lowest), impl.ErrRange, nil},
		{"both far above", nil, entryOf(highest, highest), impl.ErrRange, nil},
		{"into too many", longList, entryOf(-1, 0), impl.ErrMany, nil},
		{"not so, into one that is not so", entries(-1, 0), entryOf(0, -1), impl.ErrRange, nil},
		{"not so, into one with the same id twice", entries(1, 1, 1, 1), entryOf(0, -1), impl.ErrTaken, nil},
		{"not so, into what is no heap", entries(2, 1, 1, 2), entryOf(-1, 0), impl.ErrForm, nil},
		{"an id that is there, into what is no heap", entries(2, 1, 1, 2), entryOf(5, 1), impl.ErrForm, nil},
		{"right, into what is no heap but for it", entries(2, 1, 1, 2), entryOf(0, 0), impl.ErrForm, nil},
	}
	for _, c := range cases {
		wantHeap(t, c.name, impl.PushHeap(c.heap, c.one), c.code, c.want)
	}
}

func TestPopHeap(t *testing.T) {
	cases := []struct {
		name  string
		heap  []impl.Entry
		first impl.Entry
		want  []impl.Entry
	}{
		{"one", entries(5, 1), entryOf(5, 1), nil},
		{"one of zeros", entries(0, 0), entryOf(0, 0), nil},
		{"one at its bounds", entries(mostPass, mostId), entryOf(mostPass, mostId), nil},
		{"two", twins(1, 2), entryOf(1, 1), twins(2)},
		{"two of one pass", entries(3, 4, 3, 5), entryOf(3, 4), entries(3, 5)},
		{"a child alone that is less", twins(1, 2, 3), entryOf(1, 1), twins(2, 3)},
		{"a child alone that is not less", twins(1, 3, 2), entryOf(1, 1), twins(2, 3)},
		{"a child alone of one pass, with an id below", entries(1, 1, 3, 2, 3, 5), entryOf(1, 1), entries(3, 2, 3, 5)},
		{"a child alone of one pass, with an id above", entries(1, 1, 3, 5, 3, 2), entryOf(1, 1), entries(3, 2, 3, 5)},
		{"the first child is the lesser one", twins(1, 2, 3, 4), entryOf(1, 1), twins(2, 4, 3)},
		{"the second child is the lesser one", twins(1, 3, 2, 4), entryOf(1, 1), twins(2, 3, 4)},
		{"the first child alone is less", twins(1, 2, 9, 5), entryOf(1, 1), twins(2, 5, 9)},
		{"the second child alone is less", twins(1, 5, 2, 6, 7, 4), entryOf(1, 1), twins(2, 5, 4, 6, 7)},
		{"neither child is less", twins(1, 5, 2, 6, 7, 3), entryOf(1, 1), twins(2, 5, 3, 6, 7)},
		{"two children of one pass, the first with the id below", entries(1, 1, 2, 2, 2, 3, 4, 4), entryOf(1, 1), entries(2, 2, 4, 4, 2, 3)},
		{"two children of one pass, the second with the id below", entries(1, 1, 2, 3, 2, 2, 4, 4), entryOf(1, 1), entries(2, 2, 2, 3, 4, 4)},
		{"children of the pass of their parent", entries(1, 1, 4, 2, 4, 3, 4, 5), entryOf(1, 1), entries(4, 2, 4, 5, 4, 3)},
		{"down to a child alone that is less", twins(1, 2, 5, 3, 4), entryOf(1, 1), twins(2, 3, 5, 4)},
		{"down to a child alone that is not less", twins(1, 2, 5, 9, 4), entryOf(1, 1), twins(2, 4, 5, 9)},
		{"a full one", fullHeap, entryOf(0, 0), twins(1, 3, 2, 7, 4, 5, 6, 11, 8, 9, 10)},
		{"a full one, down to the other end", twins(0, 2, 1, 6, 7, 4, 3, 8, 9, 10, 11, 5), entryOf(0, 0), twins(1, 2, 3, 6, 7, 4, 5, 8, 9, 10, 11)},
	}
	for _, c := range cases {
		got := impl.PopHeap(c.heap)
		if got.Code != impl.OK || got.Entry != c.first || !slices.Equal(got.Heap, c.want) {
			t.Errorf("%s: %v, want %v %v", c.name, got, c.first, c.want)
		}
	}
}

// A heap that has a fault has nothing to tell, whether it is popped or sorted.
func TestPopAndSortAskTheFaultFirst(t *testing.T) {
	cases := []struct {
		name string
		heap []impl.Entry
		want int64
	}{
		{"too many", longList, impl.ErrMany},
		{"too many that are not so", slices.Repeat(entries(-1, -1), 13), impl.ErrMany},
		{"not so", entries(0, -1), impl.ErrRange},
		{"not so, twice, and less", entries(5, 5, 5, 5, -1, 5), impl.ErrRange},
		{"the same id twice", entries(1, 1, 2, 1), impl.ErrTaken},
		{"the same id twice, and less", entries(2, 1, 1, 1), impl.ErrTaken},
		{"less than its parent", entries(2, 1, 1, 2), impl.ErrForm},
		{"less than its parent by its id", entries(2, 2, 2, 1), impl.ErrForm},
		{"less at the end of a full one", with(fullHeap, 11, entryOf(4, 11)), impl.ErrForm},
	}
	for _, c := range cases {
		if r := impl.PopHeap(c.heap); r.Code != c.want || r.Entry != entryOf(0, 0) || len(r.Heap) != 0 {
			t.Errorf("pop of %s: %v, want %d alone", c.name, r, c.want)
		}
		wantHeap(t, "sort of "+c.name, impl.SortedOf(c.heap), c.want, nil)
	}
	for _, empty := range [][]impl.Entry{nil, {}} {
		if r := impl.PopHeap(empty); r.Code != impl.ErrNone || r.Entry != entryOf(0, 0) || len(r.Heap) != 0 {
			t.Errorf("pop of none: %v, want ErrNone alone", r)
		}
		wantHeap(t, "sort of none", impl.SortedOf(empty), impl.OK, nil)
	}
}

func TestHeapOf(t *testing.T) {
	cases := []struct {
		name string
		list []impl.Entry
		code int64
		want []impl.Entry
	}{
		{"nil", nil, impl.OK, nil},
		{"empty", []impl.Entry{}, impl.OK, nil},
		{"one", entries(5, 1), impl.OK, entries(5, 1)},
		{"one at its bounds", entries(mostPass, mostId), impl.OK, entries(mostPass, mostId)},
		{"rising", twins(1, 2, 3, 4, 5), impl.OK, twins(1, 2, 3, 4, 5)},
		{"falling", twins(5, 4, 3, 2, 1), impl.OK, twins(1, 2, 4, 5, 3)},
		{"of one pass, falling", entries(7, 3, 7, 2, 7, 1), impl.OK, entries(7, 1, 7, 3, 7, 2)},
		{"some of one pass", entries(5, 1, 3, 2, 3, 0, 9, 4), impl.OK, entries(3, 0, 5, 1, 3, 2, 9, 4)},
		{"as many as there may be", fullHeap, impl.OK, fullHeap},
		{"as many as there may be, falling", twins(11, 10, 9, 8, 7, 6, 5, 4, 3, 2, 1, 0), impl.OK, twins(0, 2, 1, 5, 3, 6, 7, 11, 8, 9, 4, 10)},
		{"one more", longList, impl.ErrMany, nil},
		{"one more of those that are not so", slices.Repeat(entries(-1, 100), 13), impl.ErrMany, nil},
		{"one more of those that are the same", slices.Repeat(entries(1, 1), 13), impl.ErrMany, nil},
		{"a full one but for one that is not so", with(fullHeap, 11, entryOf(mostPass+1, 11)), impl.ErrRange, nil},
		{"a full one but for an id that is there", with(fullHeap, 11, entryOf(11, 0)), impl.ErrTaken, nil},
		{"the same twice", entries(1, 1, 1, 1), impl.ErrTaken, nil},
		{"the same id twice, the second one less", entries(2, 1, 1, 1), impl.ErrTaken, nil},
		{"pass below", entries(1, 1, -1, 2), impl.ErrRange, nil},
		{"pass above", entries(1, 1, mostPass+1, 2), impl.ErrRange, nil},
		{"id below", entries(1, 1, 2, -1), impl.ErrRange, nil},
		{"id above", entries(1, 1, 2, 100), impl.ErrRange, nil},
		{"the first is not so", entries(-1, 1, 1, 1), impl.ErrRange, nil},
		{"the same id ahead of one that is not so", entries(1, 1, 2, 1, -1, 3), impl.ErrTaken, nil},
		{"one that is not so ahead of the same id", entries(1, 1, -1, 3, 2, 1), impl.ErrRange, nil},
		{"one that is not so, with an id that is there", entries(1, 1, -1, 1), impl.ErrRange, nil},
		{"not so twice", entries(5, 100, 5, 100), impl.ErrRange, nil},
	}
	for _, c := range cases {
		wantHeap(t, c.name, impl.HeapOf(c.list), c.code, c.want)
	}
}

func TestSortedOf(t *testing.T) {
	cases := []struct {
		name string
		heap []impl.Entry
		want []impl.Entry
	}{
		{"one", entries(5, 1), entries(5, 1)},
		{"two of one pass", entries(5, 1, 5, 2), entries(5, 1, 5, 2)},
		{"in order already", twins(1, 2, 3, 4), twins(1, 2, 3, 4)},
		{"children the other way", twins(1, 3, 2), twins(1, 2, 3)},
		{"two children of one pass", entries(1, 1, 3, 3, 3, 2), entries(1, 1, 3, 2, 3, 3)},
		{"passes ahead of ids", entries(1, 9, 2, 1, 3, 0), entries(1, 9, 2, 1, 3, 0)},
		{"a full one", twins(0, 2, 1, 4, 5, 3, 7, 8, 9, 10, 11, 6), twins(0, 1, 2, 3, 4, 5, 6, 7, 8, 9, 10, 11)},
		{"the bounds", entries(0, 0, 0, mostId, mostPass, 1, mostPass, 98), entries(0, 0, 0, mostId, mostPass, 1, mostPass, 98)},
	}
	for _, c := range cases {
		wantHeap(t, c.name, impl.SortedOf(c.heap), impl.OK, c.want)
	}
}
