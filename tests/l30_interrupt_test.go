package tests

import (
	"math"
	"testing"

	"loop.example/g00986/impl"
)

// sampleVectors are five vectors; the masked ones are 1, 2 and 4, and 2 is
// pending.
func sampleVectors() impl.Vectors {
	return impl.Vectors{
		Address: 50,
		Masked:  []bool{false, true, true, false, true},
		Pending: []bool{false, false, true, false, false},
	}
}

// eachVectors calls check with vectors of all numbers and of all flags that are
// valid.
func eachVectors(check func(v impl.Vectors)) {
	for size := 1; size <= 8; size++ {
		for masked := range 1 << size {
			for pending := range 1 << size {
				if pending&^masked == 0 {
					check(impl.Vectors{Address: 1000 * size, Masked: busyTags(masked).Busy[:size], Pending: busyTags(pending).Busy[:size]})
				}
			}
		}
	}
}

// badVectors are vectors that are not valid, each for one reason.
func badVectors() []impl.Vectors {
	bad := []impl.Vectors{
		{}, {Masked: make([]bool, 9), Pending: make([]bool, 9)}, {Masked: make([]bool, 1)}, {Pending: make([]bool, 1)},
		{Masked: make([]bool, 3), Pending: make([]bool, 2)}, {Masked: make([]bool, 2), Pending: make([]bool, 3)},
	}
	for _, address := range []int{-1, 65536, math.MinInt, math.MaxInt} {
		v := sampleVectors()
		v.Address = address
		bad = append(bad, v)
	}
	for _, k := range []int{0, 3} {
		v := sampleVectors()
		v.Pending[k] = true
		bad = append(bad, v)
	}
	v := sampleVectors()
	v.Masked[2] = false
	return append(bad, v)
}

// callBy is the packet by which the function id calls by vector k.
func callBy(v impl.Vectors, id int, k int) impl.Packet {
	return impl.Packet{Kind: pkWrite, From: id, Address: v.Address, Data: []int{k}}
}

func flagged(flags []bool, k int, value bool) []bool {
	changed := append([]bool{}, flags...)
	changed[k] = value
	return changed
}

func checkRaised(t *testing.T, v impl.Vectors, id int, k int, want impl.Vectors, call impl.Packet) {
	t.Helper()
	got, p, ok := impl.RaiseVector(v, id, k)
	checkEqual(t, "RaiseVector's answer", ok, true)
	checkEqual(t, "RaiseVector's packet", p, call)
	checkEqual(t, "RaiseVector", got, want)
	checkEqual(t, "VectorsOk", impl.VectorsOk(got), true)
}

func checkMasked(t *testing.T, v impl.Vectors, k int, masked bool, want impl.Vectors, call impl.Packet) {
	t.Helper()
	got, p, ok := impl.SetMask(v, 33, k, masked)
	checkEqual(t, "SetMask's answer", ok, true)
	checkEqual(t, "SetMask's packet", p, call)
	checkEqual(t, "SetMask", got, want)
	checkEqual(t, "VectorsOk", impl.VectorsOk(got), true)
}

// checkNoVector checks that vector k can neither be raised nor masked.
func checkNoVector(t *testing.T, v impl.Vectors, id int, k int) {
	t.Helper()
	got, p, ok := impl.RaiseVector(v, id, k)
	checkEqual(t, "RaiseVector's answer", ok, false)
	checkEqual(t, "RaiseVector's packet", p, impl.Packet{})
	checkEqual(t, "RaiseVector that is not possible", got, v)
	for _, masked := range []bool{false, true} {
		got, p, ok = impl.SetMask(v, id, k, masked)
		checkEqual(t, "SetMask's answer", ok, false)
		checkEqual(t, "SetMask's packet", p, impl.Packet{})
		checkEqual(t, "SetMask that is not possible", got, v)
	}
}

func TestVectorsOk(t *testing.T) {
	checkEqual(t, "MaxVectors", impl.MaxVectors, 8)
	eachVectors(func(v impl.Vectors) {
		if !impl.VectorsOk(v) {
			t.Errorf("VectorsOk(%+v) = false", v)
		}
	})
	for _, address := range []int{0, 65535} {
		v := sampleVectors()
		v.Address = address
		checkEqual(t, "VectorsOk", impl.VectorsOk(v), true)
	}
	for _, v := range badVectors() {
		if impl.VectorsOk(v) {
			t.Errorf("VectorsOk(%+v) = true", v)
		}
	}
}

func TestRaiseVector(t *testing.T) {
	eachVectors(func(v impl.Vectors) {
		for k, masked := range v.Masked {
			if !masked {
				checkRaised(t, v, 33, k, v, callBy(v, 33, k))
				continue
			}
			want := v
			want.Pending = flagged(v.Pending, k, true)
			checkRaised(t, v, 33, k, want, impl.Packet{})
		}
	})
	// The call is a valid packet, also at the last address.
	v := sampleVectors()
	v.Address = 65535
	for _, id := range []int{0, 255} {
		checkRaised(t, v, id, 3, v, callBy(v, id, 3))
		checkEqual(t, "IsPacket", impl.IsPacket(callBy(v, id, 3)), true)
	}
}

func TestSetMask(t *testing.T) {
	eachVectors(func(v impl.Vectors) {
		for k := range v.Masked {
			want := v
			want.Masked = flagged(v.Masked, k, true)
			checkMasked(t, v, k, true, want, impl.Packet{})
			want.Masked = flagged(v.Masked, k, false)
			if v.Pending[k] {
				want.Pending = flagged(v.Pending, k, false)
				checkMasked(t, v, k, false, want, callBy(v, 33, k))
			} else {
				checkMasked(t, v, k, false, want, impl.Packet{})
			}
		}
	})
}

// TestMaskingTwice is as masking once: what is pending stays so, and one call
// comes when the vector is no longer masked.
func TestMaskingTwice(t *testing.T) {
	v := sampleVectors()
	checkMasked(t, v, 2, true, v, impl.Packet{})
	twice, _, _ := impl.SetMask(v, 33, 0, true)
	twice, p, ok := impl.SetMask(twice, 33, 0, true)
	checkEqual(t, "SetMask's answer", ok, true)
	checkEqual(t, "SetMask's packet", p, impl.Packet{})
	raised, _, _ := impl.RaiseVector(twice, 33, 0)
	raised, _, _ = impl.RaiseVector(raised, 34, 0)
	raised, _, _ = impl.SetMask(raised, 33, 0, true)
	checkEqual(t, "PendingOf", impl.PendingOf(raised), []int{0, 2})
	checkMasked(t, raised, 0, false, v, callBy(v, 33, 0))
	// A vector that is not masked twice calls once.
	checkMasked(t, v, 0, false, v, impl.Packet{})
}

func TestNoVector(t *testing.T) {
	for _, k := range []int{-1, 5, 6, 8, math.MinInt, math.MaxInt} {
		checkNoVector(t, sampleVectors(), 33, k)
	}
	for _, id := range notIds() {
		for k := range 5 {
			checkNoVector(t, sampleVectors(), id, k)
		}
	}
	for _, v := range badVectors() {
		for k := range 10 {
			checkNoVector(t, v, 33, k)
		}
	}
}

func TestPendingOf(t *testing.T) {
	eachVectors(func(v impl.Vectors) {
		var want []int
		for k, pending := range v.Pending {
			if pending {
				want = append(want, k)
			}
		}
		checkEqual(t, "PendingOf", impl.PendingOf(v), want)
	})
	// The vectors need not be valid.
	checkEqual(t, "PendingOf", impl.PendingOf(impl.Vectors{Address: -1, Pending: []bool{true, false, true}}), []int{0, 2})
	checkEqual(t, "PendingOf", impl.PendingOf(impl.Vectors{Masked: []bool{true}}), []int{})
	ten := impl.Vectors{Pending: make([]bool, 10)}
	ten.Pending[9] = true
	checkEqual(t, "PendingOf", impl.PendingOf(ten), []int{9})
}

// TestInterruptPromise is promise 30: a masked vector waits, and calls once
// when it is no longer masked.
func TestInterruptPromise(t *testing.T) {
	n := numbers(30)
	waited := 0
	for range 100 {
		size := 1 + n.below(8)
		v := impl.Vectors{Address: n.below(65536), Masked: make([]bool, size), Pending: make([]bool, size)}
		masked, waiting := make([]bool, size), make([]bool, size)
		for range 100 {
			id, k := n.below(256), n.below(size)
			var p impl.Packet
			call := false
			if n.below(2) == 0 {
				v, p, _ = impl.RaiseVector(v, id, k)
				call = !masked[k]
				waiting[k] = masked[k]
			} else {
				masked[k] = n.below(2) == 0
				v, p, _ = impl.SetMask(v, id, k, masked[k])
				if call = waiting[k] && !masked[k]; call {
					waiting[k] = false
					waited++
				}
			}
			want := impl.Packet{}
			if call {
				want = callBy(v, id, k)
			}
			checkEqual(t, "the call", p, want)
			checkEqual(t, "Masked", v.Masked, masked)
			checkEqual(t, "Pending", v.Pending, waiting)
			checkEqual(t, "VectorsOk", impl.VectorsOk(v), true)
		}
	}
	if waited < 300 {
		t.Errorf("only %d vectors called after they had waited", waited)
	}
}

func TestInterruptMemory(t *testing.T) {
	masked, pending := append(sampleVectors().Masked, true, false), append(sampleVectors().Pending, true, false)
	for _, address := range []int{50, -1} {
		v := impl.Vectors{Address: address, Masked: masked[:5], Pending: pending[:5]}
		raised, p, _ := impl.RaiseVector(v, 33, 1)
		called, q, _ := impl.RaiseVector(v, 33, 0)
		notRaised, _, _ := impl.RaiseVector(v, 33, 5)
		set, s, _ := impl.SetMask(v, 33, 2, false)
		notSet, _, _ := impl.SetMask(v, 256, 2, false)
		checkApart(t, "the word of a call", [][]int{p.Data, q.Data, s.Data})
		overwrite(impl.PendingOf(v))
		for _, result := range []impl.Vectors{raised, called, notRaised, set, notSet} {
			for i, list := range [][]bool{result.Masked, result.Pending} {
				list = list[:cap(list)]
				for k := range list {
					list[k] = i == 0
				}
			}
			for _, is := range result.Masked {
				checkEqual(t, "a flag of Masked", is, true)
			}
			checkEqual(t, "Masked with what is behind it", masked, append(sampleVectors().Masked, true, false))
			checkEqual(t, "Pending with what is behind it", pending, append(sampleVectors().Pending, true, false))
		}
	}
}
