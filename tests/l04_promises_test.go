package tests

import (
	"slices"
	"testing"

	"loop.example/g00789/impl"
)

var markedEntry = entryOf(mark, mark)

// toldIsLess and those below are what the document says of heaps, read word for
// word and apart from the program.
func toldIsLess(a impl.Entry, b impl.Entry) bool {
	return slices.Compare([]int64{a.Pass, a.Id}, []int64{b.Pass, b.Id}) < 0
}

func toldIsEntry(e impl.Entry) bool {
	return among(e.Pass, 0, 100000000) && among(e.Id, 0, 99)
}

func toldParent(place int) int {
	return []int{-1, 0, 0, 1, 1, 2, 2, 3, 3, 4, 4, 5}[place]
}

func toldHasId(h []impl.Entry, id int64) bool {
	ids := map[int64]bool{}
	for _, e := range h {
		ids[e.Id] = true
	}
	return ids[id]
}

func toldHeapFault(h []impl.Entry) int64 {
	if len(h) > 12 {
		return impl.ErrMany
	}
	ids := map[int64]bool{}
	for _, e := range h {
		if !toldIsEntry(e) {
			return impl.ErrRange
		}
		ids[e.Id] = true
	}
	if len(ids) < len(h) {
		return impl.ErrTaken
	}
	for place, e := range h {
		if place > 0 && toldIsLess(e, h[toldParent(place)]) {
			return impl.ErrForm
		}
	}
	return impl.OK
}

func toldPush(h []impl.Entry, e impl.Entry) impl.EntryResult {
	code := toldHeapFault(h)
	switch {
	case code != impl.OK:
	case !toldIsEntry(e):
		code = impl.ErrRange
	case toldHasId(h, e.Id):
		code = impl.ErrTaken
	case len(h) == 12:
		code = impl.ErrFull
	}
	if code != impl.OK {
		return impl.EntryResult{Code: code}
	}
	list := append(slices.Clone(h), e)
	place := len(list) - 1
	for place != 0 {
		parent := toldParent(place)
		if !toldIsLess(e, list[parent]) {
			break
		}
		list[place], list[parent] = list[parent], e
		place = parent
	}
	return impl.EntryResult{Heap: list}
}

func toldPop(h []impl.Entry) impl.EntryResult {
	if code := toldHeapFault(h); code != impl.OK {
		return impl.EntryResult{Code: code}
	}
	if len(h) == 0 {
		return impl.EntryResult{Code: impl.ErrNone}
	}
	list, last := slices.Clone(h[:len(h)-1]), h[len(h)-1]
	if len(list) > 0 {
		list[0] = last
	}
	for place, down := 0, true; down; {
		down = false
		lesser := last
		to := place
		for child := range list {
			if child > 0 && toldParent(child) == place && toldIsLess(list[child], lesser) {
				lesser, to, down = list[child], child, true
			}
		}
		if down {
			list[place], list[to] = lesser, last
			place = to
		}
	}
	return impl.EntryResult{Entry: h[0], Heap: list}
}

func toldHeapOf(list []impl.Entry) impl.EntryResult {
	if len(list) > 12 {
		return impl.EntryResult{Code: impl.ErrMany}
	}
	r := impl.EntryResult{}
	for _, e := range list {
		if r = toldPush(r.Heap, e); r.Code != impl.OK {
			return r
		}
	}
	return r
}

// toldSorted puts them in order by itself: that is what pops have to come to.
func toldSorted(h []impl.Entry) impl.EntryResult {
	if code := toldHeapFault(h); code != impl.OK {
		return impl.EntryResult{Code: code}
	}
	return impl.EntryResult{Heap: sortedEntries(h)}
}

func sortedEntries(list []impl.Entry) []impl.Entry {
	list = slices.Clone(list)
	slices.SortFunc(list, func(a, b impl.Entry) int {
		return slices.Compare([]int64{a.Pass, a.Id}, []int64{b.Pass, b.Id})
	})
	return list
}

func bare(r impl.HeapResult) impl.EntryResult {
	return impl.EntryResult{Code: r.Code, Heap: r.Heap}
}

func sameEntryResults(a impl.EntryResult, b impl.EntryResult) bool {
	return a.Code == b.Code && a.Entry == b.Entry && slices.Equal(a.Heap, b.Heap)
}

// checkAsk asks twice, of memory that would show a change, and holds the
// answers against what the document tells.
func checkAsk(t *testing.T, name string, list []impl.Entry, ask func(list []impl.Entry) impl.EntryResult, want impl.EntryResult) {
	t.Helper()
	whole, part := spareOf(list, markedEntry)
	before := slices.Clone(whole)
	first, second := ask(part), ask(part)
	if !sameEntryResults(first, want) || !sameEntryResults(second, want) {
		t.Fatalf("%s of %v: %v and %v, want %v", name, list, first, second, want)
	}
	scribbleOf(first.Heap, markedEntry)
	if !slices.Equal(whole, before) {
		t.Fatalf("%s of %v: the argument was turned or is shared: %v", name, list, whole)
	}
	scribbleOf(whole, markedEntry)
	if !sameEntryResults(second, want) {
		t.Fatalf("%s of %v: an answer is shared: %v, want %v", name, list, second, want)
	}
}

func checkHeap(t *testing.T, list []impl.Entry, ones []impl.Entry) {
	t.Helper()
	fault := func(list []impl.Entry) impl.EntryResult { return impl.EntryResult{Code: impl.HeapFault(list)} }
	checkAsk(t, "fault", list, fault, impl.EntryResult{Code: toldHeapFault(list)})
	checkAsk(t, "pop", list, impl.PopHeap, toldPop(list))
	checkAsk(t, "heap", list, func(list []impl.Entry) impl.EntryResult { return bare(impl.HeapOf(list)) }, toldHeapOf(list))
	checkAsk(t, "sort", list, func(list []impl.Entry) impl.EntryResult { return bare(impl.SortedOf(list)) }, toldSorted(list))
	for _, one := range ones {
		push := func(list []impl.Entry) impl.EntryResult { return bare(impl.PushHeap(list, one)) }
		checkAsk(t, "push", list, push, toldPush(list, one))
	}
}

// eachEntries calls see with every list of so many of the entries.
func eachEntries(size int, of []impl.Entry, see func(list []impl.Entry)) {
	var places []int64
	for place := range of {
		places = append(places, int64(place))
	}
	eachList(size, places, func(chosen []int64) {
		var list []impl.Entry
		for _, place := range chosen {
			list = append(list, of[place])
		}
		see(list)
	})
}

// Promise 1: of any two, at most one is less, and it is the one that the
// document tells.
func TestEveryTwoAreCompared(t *testing.T) {
	numbers := []int64{lowest, lowest + 1, -1, 0, 1, 98, 99, 100, mostPass - 1, mostPass, mostPass + 1, 1 << 32, highest - 1, highest}
	eachList(4, numbers, func(list []int64) {
		a, b := entryOf(list[0], list[1]), entryOf(list[2], list[3])
		if got := impl.IsLess(a, b); got != toldIsLess(a, b) || got && impl.IsLess(b, a) {
			t.Fatal(a, b, got)
		}
	})
}

// Promise 1: every short list, of entries on both sides of each bound.
func TestEveryCallOnShortLists(t *testing.T) {
	of := entries(0, 0, 0, 1, 3, 0, 3, 2, mostPass, mostId, mostPass, 98, -1, 1, mostPass+1, 1, 3, -1, 3, 100, lowest, highest)
	for size := 0; size <= 3; size++ {
		eachEntries(size, of, func(list []impl.Entry) {
			checkHeap(t, list, of)
		})
	}
}

// Promise 1: every list of a few entries that are right by themselves.
func TestEveryCallOnListsWithoutRangeFaults(t *testing.T) {
	of := entries(1, 0, 1, 1, 1, 2, 2, 0, 2, 1, 2, 2, 2, 3)
	for size := 4; size <= 5; size++ {
		eachEntries(size, of, func(list []impl.Entry) {
			checkHeap(t, list, entries(1, 4, 2, 1, 0, 4))
		})
	}
}

// chanceList has so many entries with ids of their own, and passes of which
// some are the same.
func chanceList(chance *steps, size int) []impl.Entry {
	passes := []int64{2, 5, 20, mostPass + 1}[chance.below(4)]
	ids := make([]int64, 100)
	for id := range ids {
		ids[id] = int64(id)
	}
	var list []impl.Entry
	for range size {
		at := chance.below(int64(len(ids)))
		list = append(list, entryOf(chance.below(passes), ids[at]))
		ids = slices.Delete(ids, int(at), int(at)+1)
	}
	return list
}

// spoiledEntries has one field turned, or two entries that have changed places.
func spoiledEntries(chance *steps, list []impl.Entry) []impl.Entry {
	list = slices.Clone(list)
	if len(list) == 0 {
		return list
	}
	at, other := chance.below(int64(len(list))), chance.below(int64(len(list)))
	switch chance.below(4) {
	case 0:
		list[at].Pass = []int64{lowest, -1, 0, mostPass, mostPass + 1, highest}[chance.below(6)]
	case 1:
		list[at].Id = []int64{lowest, -1, 0, 99, 100, highest}[chance.below(6)]
	case 2:
		list[at].Id = list[other].Id
	case 3:
		list[at], list[other] = list[other], list[at]
	}
	return list
}

// Promise 1: heaps of every size up to one more than there may be, right ones
// and such as are right but for one or two faults.
func TestEveryCallOnLongLists(t *testing.T) {
	var chance steps
	for round := range 6000 {
		list := chanceList(&chance, round%14)
		if chance.below(4) > 0 {
			list = sortedEntries(list)
		}
		if chance.below(2) > 0 && len(list) < 13 {
			list = toldHeapOf(list).Heap
		}
		for range chance.below(3) {
			list = spoiledEntries(&chance, list)
		}
		ones := append(chanceList(&chance, 3), spoiledEntries(&chance, chanceList(&chance, 1))...)
		checkHeap(t, list, append(ones, list[:min(1, len(list))]...))
	}
}

// wantAll pops until there is none, and wants what was put in, the least first,
// and a heap without a fault all along.
func wantAll(t *testing.T, h []impl.Entry, put []impl.Entry) {
	t.Helper()
	want := sortedEntries(put)
	if r := impl.SortedOf(h); r.Code != impl.OK || !slices.Equal(r.Heap, want) {
		t.Fatal("sorted", h, r, "want", want)
	}
	for at, first := range want {
		r := impl.PopHeap(h)
		if r.Code != impl.OK || r.Entry != first || impl.HeapFault(r.Heap) != impl.OK {
			t.Fatal("popped", h, r, "want", first)
		}
		if left := sortedEntries(r.Heap); !slices.Equal(left, want[at+1:]) {
			t.Fatal("left", left, "want", want[at+1:])
		}
		h = r.Heap
	}
	if r := impl.PopHeap(h); r.Code != impl.ErrNone {
		t.Fatal("popped behind all", r)
	}
}

// Promise 5: in whatever order a few are put in, and whichever of them have one
// pass, they come out again, the least one first.
func TestWhatIsPutInComesOut(t *testing.T) {
	for size := 0; size <= 5; size++ {
		eachList(size, []int64{0, 1, 2, 3, 4}, func(ids []int64) {
			if size > 0 && int(slices.Max(ids)) >= size {
				return
			}
			for _, passes := range [][]int64{{7, 7, 7, 7, 7}, {0, 1, 2, 3, 4}, {4, 3, 2, 1, 0}, {1, 0, 1, 0, 1}, {0, mostPass, mostPass, 0, 3}} {
				var list []impl.Entry
				for _, id := range ids {
					list = append(list, entryOf(passes[id], id))
				}
				r := impl.HeapOf(list)
				if toldHasTwice(ids) {
					wantHeap(t, "the same id twice", r, impl.ErrTaken, nil)
					continue
				}
				if r.Code != impl.OK || impl.HeapFault(r.Heap) != impl.OK {
					t.Fatal("heap of", list, r)
				}
				wantAll(t, r.Heap, list)
			}
		})
	}
}

func toldHasTwice(ids []int64) bool {
	ids = slices.Clone(ids)
	slices.Sort(ids)
	return len(slices.Compact(ids)) < len(ids)
}

// Promise 5: long lists come out in order too, up to as many as there may be,
// and so do those that are put into a heap that is there.
func TestLongListsComeOutInOrder(t *testing.T) {
	var chance steps
	for round := range 3000 {
		list := chanceList(&chance, round%13)
		half := len(list) / 2
		h := impl.HeapOf(list[:half]).Heap
		for _, e := range list[half:] {
			r := impl.PushHeap(h, e)
			if r.Code != impl.OK || impl.HeapFault(r.Heap) != impl.OK || len(r.Heap) != len(h)+1 {
				t.Fatal("push", h, e, r)
			}
			h = r.Heap
		}
		wantAll(t, h, list)
		whole := impl.HeapOf(list)
		if whole.Code != impl.OK || !slices.Equal(whole.Heap, h) {
			t.Fatal("by halves and at once", list, h, whole)
		}
	}
}

// Promise 5: over long rows of pushes and pops, what is popped is the least of
// all that was pushed and not popped; what is refused turns nothing.
func TestPushesAndPopsInTurn(t *testing.T) {
	var chance steps
	for range 100 {
		var h, inside []impl.Entry
		for range 200 {
			one := entryOf(chance.below(6), chance.below(20))
			if chance.below(5) < 3 {
				r := impl.PushHeap(h, one)
				taken := slices.ContainsFunc(inside, func(e impl.Entry) bool { return e.Id == one.Id })
				switch {
				case taken:
					wantHeap(t, "taken", r, impl.ErrTaken, nil)
				case len(inside) == 12:
					wantHeap(t, "full", r, impl.ErrFull, nil)
				default:
					wantCode(t, "push", r.Code, impl.OK)
					h, inside = r.Heap, append(inside, one)
				}
				continue
			}
			r := impl.PopHeap(h)
			if len(inside) == 0 {
				wantCode(t, "none", r.Code, impl.ErrNone)
				continue
			}
			inside = sortedEntries(inside)
			if r.Code != impl.OK || r.Entry != inside[0] {
				t.Fatal("pop", h, r, "want", inside[0])
			}
			h, inside = r.Heap, inside[1:]
			if len(h) != len(inside) || impl.HeapFault(h) != impl.OK {
				t.Fatal("left", h, "want", inside)
			}
		}
	}
}

// Promise 5: a heap of what comes out sorted is the same row, since what is in
// order is a heap.
func TestWhatIsSortedIsAHeap(t *testing.T) {
	var chance steps
	for round := range 500 {
		h := impl.HeapOf(chanceList(&chance, round%13)).Heap
		sorted := impl.SortedOf(h)
		again := impl.HeapOf(sorted.Heap)
		if impl.HeapFault(sorted.Heap) != impl.OK || again.Code != impl.OK || !slices.Equal(again.Heap, sorted.Heap) {
			t.Fatal(h, sorted, again)
		}
	}
}
