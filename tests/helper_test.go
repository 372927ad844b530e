package tests

import (
	"fmt"
	"math"
	"slices"
	"testing"
)

// checkEqual compares what is printed: a nil slice and an empty one are the
// same value in this program, and are printed in the same way.
func checkEqual(t *testing.T, what string, got any, want any) {
	t.Helper()
	gotText, wantText := fmt.Sprintf("%+v", got), fmt.Sprintf("%+v", want)
	if gotText != wantText {
		t.Errorf("%s = %s, want %s", what, gotText, wantText)
	}
}

// numbers gives numbers that look random, the same ones in every run.
type numbers uint32

func (n *numbers) below(limit int) int {
	*n = *n*1664525 + 1013904223
	return int(*n>>8) % limit
}

func (n *numbers) bytes(size int) []int {
	list := make([]int, size)
	for i := range list {
		list[i] = n.below(256)
	}
	return list
}

func notBytes() []int {
	return []int{-1, 256, math.MinInt, math.MaxInt}
}

// spareList is a list with spare capacity, in which every element behind the
// list is -77.
func spareList(list ...int) []int {
	spare := slices.Repeat([]int{-77}, len(list)+6)
	copy(spare, list)
	return spare[:len(list)]
}

// checkSpare checks that a list made by spareList has these elements still, and
// that nothing was written behind them.
func checkSpare(t *testing.T, what string, list []int, want ...int) {
	t.Helper()
	for range 6 {
		want = append(want, -77)
	}
	checkEqual(t, what+" with what is behind it", list[:cap(list)], want)
}

// overwrite changes all elements of a list and what is behind them.
func overwrite(list []int) {
	list = list[:cap(list)]
	for i := range list {
		list[i] = -99
	}
}

// checkApart checks that no list, with what is behind it, shares memory with
// another one of the result. It overwrites them all.
func checkApart(t *testing.T, what string, lists [][]int) {
	t.Helper()
	fill := func(i int) {
		list := lists[i][:cap(lists[i])]
		for k := range list {
			list[k] = i
		}
	}
	check := func() {
		for i, list := range lists {
			checkEqual(t, what, list, slices.Repeat([]int{i}, len(list)))
		}
	}
	for i := range lists {
		fill(i)
	}
	check()
	for i := range lists {
		fill(len(lists) - 1 - i)
	}
	check()
}
