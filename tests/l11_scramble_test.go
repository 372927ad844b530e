package tests

import (
	"math"
	"testing"

	"loop.example/g00986/impl"
)

func notStates() []int {
	return []int{0, -1, 256, 257, 512, -255, math.MinInt, math.MaxInt}
}

// stateAfter follows the description of NextState bit by bit.
func stateAfter(x int) int {
	next := 2 * x
	if next >= 256 {
		next -= 256
	}
	set := 0
	for _, value := range []int{128, 32, 16, 8} {
		if x/value%2 == 1 {
			set++
		}
	}
	if set == 1 || set == 3 {
		next++
	}
	return next
}

func TestNextState(t *testing.T) {
	for x := 1; x <= 255; x++ {
		if got, want := impl.NextState(x), stateAfter(x); got != want {
			t.Errorf("NextState(%d) = %d, want %d", x, got, want)
		}
	}
	for x, want := range map[int]int{1: 2, 2: 4, 4: 8, 8: 17, 17: 35, 64: 128, 128: 1, 184: 112, 255: 254} {
		checkEqual(t, "NextState("+impl.FormatInt(x)+")", impl.NextState(x), want)
	}
	for _, x := range notStates() {
		checkEqual(t, "NextState of no state", impl.NextState(x), 1)
	}
}

func TestNextStateVisitsAllStates(t *testing.T) {
	seen := map[int]bool{}
	for x, n := 1, 0; n < 255; n++ {
		seen[x] = true
		x = impl.NextState(x)
	}
	if len(seen) != 255 || seen[0] {
		t.Errorf("255 steps visit %d states, 0 among them: %v", len(seen), seen[0])
	}
}

func TestStateAfter(t *testing.T) {
	for seed := 1; seed <= 255; seed++ {
		state := seed
		for n := 0; n <= 1000; n++ {
			if got := impl.StateAfter(seed, n); got != state {
				t.Fatalf("StateAfter(%d, %d) = %d, want %d", seed, n, got, state)
			}
			state = stateAfter(state)
		}
	}
}

func TestStateAfterRejects(t *testing.T) {
	for _, n := range []int{-1, 1001, 1255, math.MinInt, math.MaxInt} {
		checkEqual(t, "StateAfter with a number of steps past the limits", impl.StateAfter(7, n), 0)
	}
	for _, seed := range notStates() {
		for _, n := range []int{0, 1, 2, 1000, -1} {
			checkEqual(t, "StateAfter with no seed", impl.StateAfter(seed, n), 0)
		}
	}
}

func TestPeriodOf(t *testing.T) {
	for seed := 1; seed <= 255; seed++ {
		n := impl.PeriodOf(seed)
		if n != 255 || impl.StateAfter(seed, n) != seed {
			t.Errorf("PeriodOf(%d) = %d, want 255", seed, n)
		}
	}
	for _, seed := range notStates() {
		checkEqual(t, "PeriodOf with no seed", impl.PeriodOf(seed), 0)
	}
}

func TestScrambleBytes(t *testing.T) {
	checkEqual(t, "ScrambleBytes", impl.ScrambleBytes(1, []int{0, 0, 0, 0, 0, 255}), []int{1, 2, 4, 8, 17, 220})
	checkEqual(t, "ScrambleBytes of the seed", impl.ScrambleBytes(255, []int{255, 254}), []int{0, 0})
	n := numbers(11)
	for size := 0; size <= 40; size++ {
		seed, list := 1+n.below(255), n.bytes(size)
		got := impl.ScrambleBytes(seed, list)
		want := make([]int, size)
		for i, state := 0, seed; i < size; i++ {
			want[i] = list[i] ^ state
			state = stateAfter(state)
		}
		checkEqual(t, "ScrambleBytes", got, want)
	}
}

func TestScrambleBytesRejects(t *testing.T) {
	for _, seed := range notStates() {
		if got := impl.ScrambleBytes(seed, []int{1, 2}); got != nil {
			t.Errorf("ScrambleBytes(%d, ..) = %v, want nil", seed, got)
		}
	}
	for _, b := range notBytes() {
		if got := impl.ScrambleBytes(1, []int{3, b, 4}); got != nil {
			t.Errorf("ScrambleBytes of %d = %v, want nil", b, got)
		}
	}
	if got := impl.ScrambleBytes(1, make([]int, 41)); got != nil {
		t.Errorf("ScrambleBytes of 41 bytes = %v, want nil", got)
	}
}

// TestScramblePromise is promise 11: scrambling twice gives the bytes back.
func TestScramblePromise(t *testing.T) {
	n := numbers(111)
	for seed := 1; seed <= 255; seed++ {
		for size := 0; size <= 40; size++ {
			list := n.bytes(size)
			once := impl.ScrambleBytes(seed, list)
			if !impl.AreBytes(once) || len(once) != size {
				t.Fatalf("ScrambleBytes(%d, %v) = %v", seed, list, once)
			}
			checkEqual(t, "ScrambleBytes twice", impl.ScrambleBytes(seed, once), list)
		}
	}
}

func TestScrambleMemory(t *testing.T) {
	list := spareList(9, 8, 7)
	overwrite(impl.ScrambleBytes(3, list))
	checkSpare(t, "the bytes", list, 9, 8, 7)
}
