package tests

import (
	"slices"
	"testing"
)

const (
	lowest  = -1 << 63
	highest = 1<<63 - 1
	mark    = -77 // stands in spare memory, and is scribbled over answers
)

// spareOf copies a list into longer memory, so that an append to the list, or an
// answer that shares its memory, is seen.
func spareOf[T any](list []T, with T) (whole []T, part []T) {
	whole = make([]T, len(list)+4)
	copy(whole, list)
	for i := len(list); i < len(whole); i++ {
		whole[i] = with
	}
	return whole, whole[:len(list)]
}

func spare(list []int64) (whole []int64, part []int64) {
	return spareOf(list, mark)
}

// scribbleOf overwrites all memory that can be reached by a list.
func scribbleOf[T any](list []T, with T) {
	list = list[:cap(list)]
	for i := range list {
		list[i] = with
	}
}

func scribble(list []int64) {
	scribbleOf(list, mark)
}

// steps is a row of numbers that looks like chance and is always the same.
type steps uint64

func (s *steps) below(n int64) int64 {
	*s = *s*6364136223846793005 + 1442695040888963407
	return int64(uint64(*s>>33) % uint64(n))
}

// eachList calls see with every list of so many of the values.
func eachList(size int, values []int64, see func(list []int64)) {
	list := make([]int64, size)
	var fill func(at int)
	fill = func(at int) {
		if at == size {
			see(slices.Clone(list))
			return
		}
		for _, value := range values {
			list[at] = value
			fill(at + 1)
		}
	}
	fill(0)
}

func wantCode(t *testing.T, name string, got int64, want int64) {
	t.Helper()
	if got != want {
		t.Errorf("%s: code %d, want %d", name, got, want)
	}
}
