package tests

import (
	"fmt"
	"math"
	"math/bits"
	"testing"

	"loop.example/g00986/impl"
)

// fieldOfText reads a field from the binary digits of a word.
func fieldOfText(x int, low int, width int) int {
	digits := fmt.Sprintf("%016b", x)
	n := 0
	for _, digit := range digits[16-low-width : 16-low] {
		n = 2*n + int(digit-'0')
	}
	return n
}

func sampleWords() []int {
	words := []int{0, 1, 2, 4660, 21845, 32767, 32768, 43690, 65534, 65535}
	for x := 3; x < 65535; x += 1237 {
		words = append(words, x)
	}
	return words
}

func TestWordLimit(t *testing.T) {
	if impl.MaxWord != 65535 {
		t.Errorf("MaxWord = %d, want 65535", impl.MaxWord)
	}
}

func TestFieldOf(t *testing.T) {
	for _, x := range sampleWords() {
		for low := range 16 {
			for width := 1; width <= 16-low; width++ {
				if got, want := impl.FieldOf(x, low, width), fieldOfText(x, low, width); got != want {
					t.Fatalf("FieldOf(%d, %d, %d) = %d, want %d", x, low, width, got, want)
				}
			}
		}
	}
}

func TestFieldOfExamples(t *testing.T) {
	cases := []struct{ x, low, width, want int }{
		{4660, 0, 16, 4660}, {4660, 4, 8, 35}, {4660, 12, 4, 1}, {4660, 0, 4, 4},
		{32768, 15, 1, 1}, {32767, 15, 1, 0}, {65535, 15, 1, 1}, {65535, 14, 2, 3}, {0, 0, 1, 0},
	}
	for _, c := range cases {
		if got := impl.FieldOf(c.x, c.low, c.width); got != c.want {
			t.Errorf("FieldOf(%d, %d, %d) = %d, want %d", c.x, c.low, c.width, got, c.want)
		}
	}
}

// notFields are a word and the bits of a field that do not go together.
func notFields() [][3]int {
	rejected := [][3]int{
		{-1, 0, 1}, {65536, 0, 1}, {math.MinInt, 0, 16}, {math.MaxInt, 0, 16}, {-65535, 15, 1},
		{1, -1, 1}, {1, -1, 17}, {1, 16, 1}, {1, 16, 0}, {1, 17, -1}, {1, math.MinInt, 1}, {1, math.MaxInt, 1},
		{1, math.MinInt, math.MinInt}, {1, math.MaxInt, math.MaxInt},
		{1, 0, math.MinInt}, {1, 0, math.MaxInt}, {1, 15, math.MaxInt}, {-1, -1, -1}, {65536, 16, 17},
	}
	for low := range 16 {
		rejected = append(rejected, [3]int{65535, low, 0}, [3]int{65535, low, -1}, [3]int{65535, low, 17 - low})
	}
	return rejected
}

func TestFieldOfRejects(t *testing.T) {
	for _, r := range notFields() {
		if got := impl.FieldOf(r[0], r[1], r[2]); got != -1 {
			t.Errorf("FieldOf(%d, %d, %d) = %d, want -1", r[0], r[1], r[2], got)
		}
	}
}

func TestWithFieldRejectsFields(t *testing.T) {
	for _, r := range notFields() {
		for _, v := range []int{0, 1, -1} {
			if got, ok := impl.WithField(r[0], r[1], r[2], v); got != r[0] || ok {
				t.Errorf("WithField(%d, %d, %d, %d) = %d, %v, want x, false", r[0], r[1], r[2], v, got, ok)
			}
		}
	}
}

func TestWithFieldRejectsValues(t *testing.T) {
	for low := range 16 {
		for width := 1; width <= 16-low; width++ {
			for _, v := range []int{-1, 1 << width, 65536, math.MinInt, math.MaxInt} {
				if got, ok := impl.WithField(4660, low, width, v); got != 4660 || ok {
					t.Fatalf("WithField(4660, %d, %d, %d) = %d, %v, want 4660, false", low, width, v, got, ok)
				}
			}
		}
	}
}

func TestWithFieldExamples(t *testing.T) {
	cases := []struct{ x, low, width, v, want int }{
		{65535, 4, 4, 0, 65295}, {0, 4, 4, 15, 240}, {0, 15, 1, 1, 32768}, {65535, 15, 1, 0, 32767},
		{4660, 0, 16, 65535, 65535}, {4660, 0, 16, 0, 0}, {4660, 12, 4, 15, 62004}, {4660, 0, 4, 5, 4661},
	}
	for _, c := range cases {
		if got, ok := impl.WithField(c.x, c.low, c.width, c.v); got != c.want || !ok {
			t.Errorf("WithField(%d, %d, %d, %d) = %d, %v, want %d, true", c.x, c.low, c.width, c.v, got, ok, c.want)
		}
	}
}

// TestFieldPromise is promise 2: a field that was replaced is read back, and
// the other bits stay as they were.
func TestFieldPromise(t *testing.T) {
	for _, x := range sampleWords() {
		for low := range 16 {
			for width := 1; width <= 16-low; width++ {
				top := 1<<width - 1
				for _, v := range []int{0, 1, top / 2, top} {
					checkFieldReplaced(t, x, low, width, v)
				}
			}
		}
	}
}

func checkFieldReplaced(t *testing.T, x int, low int, width int, v int) {
	t.Helper()
	y, ok := impl.WithField(x, low, width, v)
	if !ok || impl.FieldOf(y, low, width) != v {
		t.Fatalf("WithField(%d, %d, %d, %d) = %d, %v; the field reads %d", x, low, width, v, y, ok, impl.FieldOf(y, low, width))
	}
	for bit := range 16 {
		outside := bit < low || bit >= low+width
		if outside && impl.FieldOf(y, bit, 1) != impl.FieldOf(x, bit, 1) {
			t.Fatalf("WithField(%d, %d, %d, %d) = %d changes bit %d", x, low, width, v, y, bit)
		}
	}
	if y < 0 || y > impl.MaxWord {
		t.Fatalf("WithField(%d, %d, %d, %d) = %d is not a word", x, low, width, v, y)
	}
}

func TestCountOnes(t *testing.T) {
	for x := range 65536 {
		if got, want := impl.CountOnes(x), bits.OnesCount16(uint16(x)); got != want {
			t.Fatalf("CountOnes(%d) = %d, want %d", x, got, want)
		}
	}
	for _, x := range []int{-1, -2, 65536, 131071, math.MinInt, math.MaxInt} {
		if got := impl.CountOnes(x); got != -1 {
			t.Errorf("CountOnes(%d) = %d, want -1", x, got)
		}
	}
}

func TestIsPower(t *testing.T) {
	for k := range 63 {
		power := 1 << k
		if got, want := impl.IsPower(power), k <= 20; got != want {
			t.Errorf("IsPower(2^%d) = %v, want %v", k, got, want)
		}
		if k > 1 && (impl.IsPower(power-1) || impl.IsPower(power+1)) {
			t.Errorf("a neighbour of 2^%d is a power", k)
		}
		if impl.IsPower(-power) {
			t.Errorf("IsPower(-2^%d) = true", k)
		}
	}
	for _, x := range []int{0, 3, 6, 12, 24, 1048575, 786432, math.MinInt, math.MaxInt} {
		if impl.IsPower(x) {
			t.Errorf("IsPower(%d) = true", x)
		}
	}
}

func TestRoundUp(t *testing.T) {
	for k := range 21 {
		size := 1 << k
		for _, x := range []int{0, 1, 2, 15, 16, 17, 4660, size - 1, size, size + 1, 3 * size, 65535, 1048575, 1048576} {
			if x < 0 || x > 1048576 {
				continue
			}
			got := impl.RoundUp(x, size)
			if got < x || got >= x+size || got%size != 0 {
				t.Errorf("RoundUp(%d, %d) = %d", x, size, got)
			}
		}
	}
	cases := []struct{ x, size, want int }{
		{0, 1, 0}, {0, 1048576, 0}, {1, 1048576, 1048576}, {1048576, 1048576, 1048576}, {17, 16, 32}, {16, 16, 16}, {15, 16, 16},
	}
	for _, c := range cases {
		if got := impl.RoundUp(c.x, c.size); got != c.want {
			t.Errorf("RoundUp(%d, %d) = %d, want %d", c.x, c.size, got, c.want)
		}
	}
}

func TestRoundUpRejects(t *testing.T) {
	rejected := [][2]int{
		{-1, 16}, {1048577, 16}, {math.MinInt, 1}, {math.MaxInt, 1}, {math.MaxInt, 1048576},
		{1, 0}, {0, 0}, {1, -1}, {1, -16}, {1, 3}, {16, 12}, {1, 2097152}, {1, math.MinInt}, {1, math.MaxInt}, {-1, 3},
	}
	for _, r := range rejected {
		if got := impl.RoundUp(r[0], r[1]); got != -1 {
			t.Errorf("RoundUp(%d, %d) = %d, want -1", r[0], r[1], got)
		}
	}
}
