package tests

import (
	"math"
	"testing"

	"loop.example/g00986/impl"
)

// barSizes are all sizes of a register but 0.
func barSizes() []int {
	return []int{16, 32, 64, 128, 256, 512, 1024, 2048, 4096, 8192, 16384, 32768}
}

// sampleBars are valid registers, among them the first and the last one of each
// size.
func sampleBars() []impl.Bar {
	list := []impl.Bar{{}}
	for _, size := range barSizes() {
		list = append(list, impl.Bar{Size: size}, impl.Bar{Size: size, Base: size}, impl.Bar{Size: size, Base: 65536 - size})
	}
	return append(list, impl.Bar{Size: 16, Base: 48}, impl.Bar{Size: 1024, Base: 5 * 1024}, impl.Bar{Size: 256, Base: 768})
}

// badBars are registers that are not valid.
func badBars() []impl.Bar {
	list := []impl.Bar{
		{Base: 16}, {Base: -16}, {Base: 1}, {Base: math.MaxInt}, {Base: math.MinInt},
		{Size: 1}, {Size: 2}, {Size: 8}, {Size: 8, Base: 8}, {Size: 65536}, {Size: 1 << 20},
		{Size: 15}, {Size: 17}, {Size: 24}, {Size: 24, Base: 24}, {Size: 48}, {Size: 32767}, {Size: 32769},
		{Size: -1}, {Size: -16}, {Size: -16, Base: -16}, {Size: math.MinInt}, {Size: math.MaxInt}, {Size: 1 << 62},
	}
	for _, size := range barSizes() {
		for _, base := range []int{1, -1, size / 2, size - 1, size + 1, size + 8, -size, 65536, 65536 - size + 1, 65536 - size/2, math.MaxInt, math.MinInt} {
			list = append(list, impl.Bar{Size: size, Base: base})
		}
	}
	return list
}

func TestBarOk(t *testing.T) {
	for _, b := range sampleBars() {
		checkEqual(t, "BarOk", impl.BarOk(b), true)
	}
	for _, b := range badBars() {
		if impl.BarOk(b) {
			t.Errorf("BarOk(%+v) = true", b)
		}
	}
}

func TestWriteBar(t *testing.T) {
	for _, c := range []struct{ size, v, base int }{
		{256, 1000, 768}, {256, 767, 512}, {256, 768, 768}, {256, 255, 0}, {256, 0, 0}, {256, 65535, 65280},
		{16, 65535, 65520}, {16, 16, 16}, {16, 15, 0}, {32768, 65535, 32768}, {32768, 32767, 0}, {32768, 32768, 32768},
	} {
		for _, before := range []int{0, 32768} {
			got := impl.WriteBar(impl.Bar{Size: c.size, Base: before}, c.v)
			checkEqual(t, "WriteBar", got, impl.Bar{Size: c.size, Base: c.base})
		}
	}
	for _, b := range sampleBars() {
		for _, v := range []int{-1, 65536, math.MinInt, math.MaxInt} {
			checkEqual(t, "WriteBar of no word", impl.WriteBar(b, v), b)
		}
	}
	for _, b := range badBars() {
		for _, v := range []int{0, 16, 1000, 65535, -1} {
			checkEqual(t, "WriteBar to no register", impl.WriteBar(b, v), b)
		}
	}
}

// TestSizeZero is the register of a function that needs no room: it stays 0,
// covers nothing and overlaps nothing.
func TestSizeZero(t *testing.T) {
	for _, v := range []int{0, 1, 16, 256, 65535, 65536, -1} {
		checkEqual(t, "WriteBar of size 0", impl.WriteBar(impl.Bar{}, v), impl.Bar{})
		checkEqual(t, "Covers of size 0", impl.Covers(impl.Bar{}, v), false)
	}
	for _, b := range append(sampleBars(), badBars()...) {
		if impl.BarsOverlap(impl.Bar{}, b) || impl.BarsOverlap(b, impl.Bar{}) {
			t.Errorf("the register of size 0 overlaps %+v", b)
		}
	}
	checkEqual(t, "SizeFromMask 0", impl.SizeFromMask(0), 0)
}

func TestSizeFromMask(t *testing.T) {
	sizes := map[int]int{0: 0}
	for _, size := range barSizes() {
		sizes[65536-size] = size
	}
	for mask := -10; mask <= 65546; mask++ {
		want, is := sizes[mask]
		if !is {
			want = -1
		}
		if got := impl.SizeFromMask(mask); got != want {
			t.Errorf("SizeFromMask(%d) = %d, want %d", mask, got, want)
		}
	}
	for _, mask := range []int{math.MinInt, math.MaxInt, -65536, 65536 + 65280, 1 << 32} {
		checkEqual(t, "SizeFromMask of no word", impl.SizeFromMask(mask), -1)
	}
}

// TestSizeOfEveryRegister writes MaxWord and reads back the size.
func TestSizeOfEveryRegister(t *testing.T) {
	for _, b := range sampleBars() {
		checkEqual(t, "SizeFromMask", impl.SizeFromMask(impl.WriteBar(b, 65535).Base), b.Size)
	}
}

func TestCovers(t *testing.T) {
	for _, b := range sampleBars() {
		for _, address := range []int{
			0, 1, b.Base - 1, b.Base, b.Base + 1, b.Base + b.Size/2, b.Base + b.Size - 1, b.Base + b.Size,
			-1, 65535, 65536, math.MinInt, math.MaxInt,
		} {
			want := b.Base <= address && address < b.Base+b.Size
			if got := impl.Covers(b, address); got != want {
				t.Errorf("Covers(%+v, %d) = %v", b, address, got)
			}
		}
	}
	for _, b := range badBars() {
		for _, address := range []int{0, 1, 16, b.Base, b.Base + 1, b.Base + b.Size/2, -1, 65535, 65536} {
			if impl.Covers(b, address) {
				t.Errorf("Covers(%+v, %d) = true", b, address)
			}
		}
	}
}

func TestBarsOverlap(t *testing.T) {
	for _, a := range sampleBars() {
		for _, b := range sampleBars() {
			// Two windows with a common address have the begin of one of them in common.
			want := impl.Covers(a, b.Base) && b.Size > 0 || impl.Covers(b, a.Base) && a.Size > 0
			if got := impl.BarsOverlap(a, b); got != want {
				t.Errorf("BarsOverlap(%+v, %+v) = %v", a, b, got)
			}
		}
		for _, b := range badBars() {
			if impl.BarsOverlap(a, b) || impl.BarsOverlap(b, a) || impl.BarsOverlap(b, b) {
				t.Errorf("%+v, which is not valid, overlaps %+v or itself", b, a)
			}
		}
	}
	for _, c := range []struct {
		a, b impl.Bar
		want bool
	}{
		{impl.Bar{Size: 256, Base: 768}, impl.Bar{Size: 1024}, true},
		{impl.Bar{Size: 256, Base: 768}, impl.Bar{Size: 256, Base: 768}, true},
		{impl.Bar{Size: 256, Base: 768}, impl.Bar{Size: 16, Base: 1008}, true},
		{impl.Bar{Size: 256, Base: 768}, impl.Bar{Size: 16, Base: 1024}, false},
		{impl.Bar{Size: 256, Base: 768}, impl.Bar{Size: 512}, false},
		{impl.Bar{Size: 256, Base: 768}, impl.Bar{Size: 256, Base: 512}, false},
		{impl.Bar{Size: 32768}, impl.Bar{Size: 32768, Base: 32768}, false},
	} {
		checkEqual(t, "BarsOverlap", impl.BarsOverlap(c.a, c.b), c.want)
		checkEqual(t, "BarsOverlap, reversed", impl.BarsOverlap(c.b, c.a), c.want)
	}
}

// TestBasePromise is promise 23: a register takes the multiple of its size
// below what is written.
func TestBasePromise(t *testing.T) {
	for _, size := range barSizes() {
		b := impl.Bar{Size: size}
		for v := 0; v <= 65535; v += 7 {
			b = impl.WriteBar(b, v)
			if b.Size != size || b.Base%size != 0 || b.Base > v || v-b.Base >= size {
				t.Errorf("a register of size %d has the base %d after %d was written", size, b.Base, v)
			}
			if !impl.BarOk(b) || !impl.Covers(b, v) {
				t.Errorf("%+v is not valid, or does not cover %d", b, v)
			}
		}
	}
}
