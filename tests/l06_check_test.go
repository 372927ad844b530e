package tests

import (
	"math"
	"slices"
	"testing"

	"loop.example/g00986/impl"
)

// slowCheck follows the words of the document, bit by bit.
func slowCheck(bytes []int) int {
	check := 65535
	for _, b := range bytes {
		check ^= b * 256
		for range 8 {
			check *= 2
			if check > 65535 {
				check ^= 69665
			}
		}
	}
	return check
}

func TestCheckOf(t *testing.T) {
	checkEqual(t, "CheckOf(nil)", impl.CheckOf(nil), 65535)
	checkEqual(t, "CheckOf of the digits", impl.CheckOf([]int{49, 50, 51, 52, 53, 54, 55, 56, 57}), 10673)
	checkEqual(t, "CheckOf of the letter A", impl.CheckOf([]int{65}), 0xb915)
	for a := range 256 {
		checkEqual(t, "CheckOf of one byte", impl.CheckOf([]int{a}), slowCheck([]int{a}))
		for b := range 256 {
			if impl.CheckOf([]int{a, b}) != slowCheck([]int{a, b}) {
				t.Errorf("CheckOf of %d, %d = %d", a, b, impl.CheckOf([]int{a, b}))
			}
		}
	}
	n := numbers(6)
	for size := range 41 {
		for _, list := range [][]int{n.bytes(size), make([]int, size), slices.Repeat([]int{255}, size)} {
			checkEqual(t, "CheckOf", impl.CheckOf(list), slowCheck(list))
		}
	}
}

func TestCheckOfInvalidLists(t *testing.T) {
	checkEqual(t, "CheckOf of 41 bytes", impl.CheckOf(make([]int, 41)), -1)
	for _, b := range notBytes() {
		checkEqual(t, "CheckOf", impl.CheckOf([]int{b}), -1)
		checkEqual(t, "CheckOf", impl.CheckOf([]int{1, 2, b}), -1)
		checkEqual(t, "AddCheck", impl.AddCheck([]int{1, b, 2}), []int{})
		checkEqual(t, "DistanceOf", impl.DistanceOf([]int{b}, []int{b}), -1)
		checkEqual(t, "DistanceOf", impl.DistanceOf([]int{b}, []int{0}), -1)
		checkEqual(t, "DistanceOf", impl.DistanceOf([]int{0}, []int{b}), -1)
	}
}

func TestAddCheckAndTakeCheck(t *testing.T) {
	n := numbers(60)
	for size := range 39 {
		list := n.bytes(size)
		check := slowCheck(list)
		frame := append(slices.Clone(list), check/256, check%256)
		checkEqual(t, "AddCheck", impl.AddCheck(list), frame)
		got, ok := impl.TakeCheck(frame)
		if !ok || !slices.Equal(got, list) {
			t.Errorf("TakeCheck(%v) = %v, %v, want %v, true", frame, got, ok, list)
		}
	}
	checkEqual(t, "AddCheck(nil)", impl.AddCheck(nil), []int{255, 255})
	for size := 39; size < 44; size++ {
		checkEqual(t, "AddCheck of too many bytes", impl.AddCheck(make([]int, size)), []int{})
	}
}

func checkNotTaken(t *testing.T, frame []int) {
	t.Helper()
	if got, ok := impl.TakeCheck(frame); ok || len(got) != 0 {
		t.Errorf("TakeCheck(%v) = %v, %v, want none, false", frame, got, ok)
	}
}

func TestTakeCheckOfOtherLists(t *testing.T) {
	frame := impl.AddCheck([]int{49, 50, 51})
	for size := range frame {
		checkNotTaken(t, frame[:size])
	}
	for b := range 256 {
		checkNotTaken(t, []int{b})
		// A frame and a 0 are a frame again, with its first check byte as data.
		if b != 0 {
			checkNotTaken(t, append(slices.Clone(frame), b))
		}
		if b != 255 {
			checkNotTaken(t, []int{b, 255})
			checkNotTaken(t, []int{255, b})
		}
	}
	for i := range frame {
		for _, b := range notBytes() {
			changed := slices.Clone(frame)
			changed[i] = b
			checkNotTaken(t, changed)
		}
		changed := slices.Clone(frame)
		changed[i] += 256
		checkNotTaken(t, changed)
		changed[i] -= 512
		checkNotTaken(t, changed)
	}
	for size := 39; size < 43; size++ {
		list := make([]int, size)
		check := slowCheck(list)
		checkNotTaken(t, append(list, check/256, check%256))
	}
}

func TestFlipBit(t *testing.T) {
	frame := []int{0, 255, 129, 64}
	for bit := range 32 {
		want := slices.Clone(frame)
		want[bit/8] ^= []int{1, 2, 4, 8, 16, 32, 64, 128}[bit%8]
		got := impl.FlipBit(frame, bit)
		checkEqual(t, "FlipBit", got, want)
		checkEqual(t, "FlipBit twice", impl.FlipBit(got, bit), frame)
	}
	for _, bit := range []int{-1, -8, 32, 33, math.MinInt, math.MaxInt} {
		checkEqual(t, "FlipBit of no bit", impl.FlipBit(frame, bit), frame)
	}
	checkEqual(t, "FlipBit(nil, 0)", impl.FlipBit(nil, 0), []int{})
	long := make([]int, 40)
	checkEqual(t, "FlipBit of the last bit", impl.FlipBit(long, 319)[39], 128)
	checkEqual(t, "FlipBit behind the last bit", impl.FlipBit(long, 320), long)
}

func TestFlipBitOfInvalidLists(t *testing.T) {
	for _, b := range notBytes() {
		for bit := range 24 {
			checkEqual(t, "FlipBit", impl.FlipBit([]int{1, b, 2}, bit), []int{1, b, 2})
		}
	}
	long := make([]int, 41)
	checkEqual(t, "FlipBit of 41 bytes", impl.FlipBit(long, 3), long)
}

func TestDistanceOf(t *testing.T) {
	checkEqual(t, "DistanceOf(nil, nil)", impl.DistanceOf(nil, nil), 0)
	checkEqual(t, "DistanceOf", impl.DistanceOf([]int{0, 255}, []int{1, 0}), 9)
	checkEqual(t, "DistanceOf", impl.DistanceOf([]int{1, 2, 3}, []int{3, 2, 1}), 2)
	zeros, ones := make([]int, 40), slices.Repeat([]int{255}, 40)
	checkEqual(t, "DistanceOf 40 bytes", impl.DistanceOf(zeros, ones), 320)
	checkEqual(t, "DistanceOf the same list", impl.DistanceOf(ones, ones), 0)
	checkEqual(t, "DistanceOf other lengths", impl.DistanceOf(zeros, ones[:39]), -1)
	checkEqual(t, "DistanceOf other lengths", impl.DistanceOf(nil, []int{0}), -1)
	checkEqual(t, "DistanceOf 41 bytes", impl.DistanceOf(make([]int, 41), make([]int, 41)), -1)
	checkEqual(t, "DistanceOf 41 bytes", impl.DistanceOf(zeros, make([]int, 41)), -1)
}

func TestCheckMemory(t *testing.T) {
	list := spareList(1, 2, 3)
	frame := impl.AddCheck(list)
	taken, _ := impl.TakeCheck(spareList(frame...))
	flipped, same := impl.FlipBit(list, 0), impl.FlipBit(list, -1)
	for _, result := range [][]int{frame, taken, flipped, same} {
		overwrite(result)
	}
	checkSpare(t, "the list", list, 1, 2, 3)

	kept := spareList(impl.AddCheck(list)...)
	taken, _ = impl.TakeCheck(kept)
	overwrite(taken)
	checkSpare(t, "the frame", kept, impl.AddCheck(list)...)
}

// TestCheckPromise is promise 6: a frame with up to three changed bits is not
// taken. All choices of bits are tried in short frames, all pairs in the
// longest one.
func TestCheckPromise(t *testing.T) {
	n := numbers(66)
	for size := range 4 {
		frame := impl.AddCheck(n.bytes(size))
		for a := range 8 * len(frame) {
			one := impl.FlipBit(frame, a)
			checkDamaged(t, frame, one, 1)
			for b := range a {
				two := impl.FlipBit(one, b)
				checkDamaged(t, frame, two, 2)
				for c := range b {
					checkDamaged(t, frame, impl.FlipBit(two, c), 3)
				}
			}
		}
	}
	frame := impl.AddCheck(n.bytes(38))
	for a := range 320 {
		for b := range a {
			two := impl.FlipBit(impl.FlipBit(frame, a), b)
			checkDamaged(t, frame, two, 2)
			if b > 0 {
				checkDamaged(t, frame, impl.FlipBit(two, n.below(b)), 3)
			}
		}
	}
}

func checkDamaged(t *testing.T, frame []int, damaged []int, bits int) {
	t.Helper()
	if impl.DistanceOf(frame, damaged) != bits {
		t.Errorf("%v and %v differ in %d bits, want %d", frame, damaged, impl.DistanceOf(frame, damaged), bits)
	}
	checkNotTaken(t, damaged)
}
