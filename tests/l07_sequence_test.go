package tests

import (
	"math"
	"testing"

	"loop.example/g00986/impl"
)

func notSeqs() []int {
	return []int{-1, -2, -16, 16, 17, 31, 32, math.MinInt, math.MaxInt}
}

func TestSequenceConstants(t *testing.T) {
	checkEqual(t, "SeqCount, SeqWindow", []int{impl.SeqCount, impl.SeqWindow}, []int{16, 7})
}

func TestSequenceNumbers(t *testing.T) {
	nexts := []int{1, 2, 3, 4, 5, 6, 7, 8, 9, 10, 11, 12, 13, 14, 15, 0}
	for n, next := range nexts {
		checkEqual(t, "IsSeq", impl.IsSeq(n), true)
		checkEqual(t, "NextSeq", impl.NextSeq(n), next)
	}
	for _, n := range notSeqs() {
		checkEqual(t, "IsSeq", impl.IsSeq(n), false)
		checkEqual(t, "NextSeq", impl.NextSeq(n), -1)
	}
}

func TestSeqDistanceAroundZero(t *testing.T) {
	cases := []struct{ a, b, distance int }{
		{0, 0, 0}, {0, 1, 1}, {1, 0, 15}, {15, 0, 1}, {0, 15, 15}, {14, 2, 4}, {2, 14, 12},
		{3, 3, 0}, {15, 15, 0}, {12, 3, 7}, {12, 4, 8}, {8, 0, 8}, {0, 8, 8},
	}
	for _, c := range cases {
		if got := impl.SeqDistance(c.a, c.b); got != c.distance {
			t.Errorf("SeqDistance(%d, %d) = %d, want %d", c.a, c.b, got, c.distance)
		}
	}
}

func TestIsOld(t *testing.T) {
	for expected := range 16 {
		for back := range 16 {
			n := (expected - back + 16) % 16
			if got := impl.IsOld(n, expected); got != (back >= 1 && back <= 7) {
				t.Errorf("IsOld(%d, %d) = %v, %d back", n, expected, got, back)
			}
		}
	}
}

func TestNumbersThatAreNoSequenceNumbers(t *testing.T) {
	others := append(notSeqs(), 0, 5, 15)
	for _, n := range notSeqs() {
		for _, m := range others {
			checkEqual(t, "SeqDistance", impl.SeqDistance(n, m), -1)
			checkEqual(t, "SeqDistance", impl.SeqDistance(m, n), -1)
			checkEqual(t, "IsOld", impl.IsOld(n, m), false)
			checkEqual(t, "IsOld", impl.IsOld(m, n), false)
		}
	}
}

// TestSequencePromise is promise 7: the distance counts how often the next
// number is taken.
func TestSequencePromise(t *testing.T) {
	for a := range 16 {
		b := a
		for steps := range 16 {
			if got := impl.SeqDistance(a, b); got != steps {
				t.Errorf("SeqDistance(%d, %d) = %d, want %d", a, b, got, steps)
			}
			b = impl.NextSeq(b)
		}
		checkEqual(t, "the number after sixteen steps", b, a)
	}
}
