package tests

import (
	"math"
	"slices"
	"testing"

	"loop.example/g00986/impl"
)

// chainedRegisters have capabilities with these kinds at these places; all
// other registers are not 0.
func chainedRegisters(places []int, kinds []int) []int {
	r := make([]int, 64)
	for i := range r {
		r[i] = 65535 - 3*i
	}
	r[4] = 0
	for i := len(places) - 1; i >= 0; i-- {
		r[places[i]] = 256*r[4] + kinds[i]
		r[4] = places[i]
	}
	return r
}

// sampleRegisters have four capabilities, two of them of the kind 7.
func sampleRegisters() []int {
	return chainedRegisters([]int{20, 8, 63, 41}, []int{5, 7, 0, 7})
}

// badChains are registers that are not valid, or whose chain is not.
func badChains() map[string][]int {
	bad := map[string][]int{
		"none": nil, "one less": sampleRegisters()[:63], "one more": append(sampleRegisters(), 0),
		"no chain": make([]int, 63),
	}
	change := func(name string, register int, value int) {
		r := sampleRegisters()
		r[register] = value
		bad[name] = r
	}
	for _, register := range []int{0, 4, 20, 50, 63} {
		for _, value := range []int{-1, 65536, math.MinInt, math.MaxInt} {
			change(impl.FormatInt(register)+" is "+impl.FormatInt(value), register, value)
		}
	}
	for _, place := range []int{1, 4, 7, 64, 65, 255} {
		change("first place "+impl.FormatInt(place), 4, place)
		change("middle place "+impl.FormatInt(place), 8, 256*place+7)
		change("last place "+impl.FormatInt(place), 41, 256*place+7)
	}
	// The place has all bits of the register FirstCap, not only the lower ones.
	change("first place 256", 4, 256)
	change("first place 256+20", 4, 256+20)
	change("first place 65535", 4, 65535)
	for _, place := range []int{20, 8, 63, 41} {
		change("a circle back to "+impl.FormatInt(place), 41, 256*place+7)
	}
	change("a circle of the first one", 20, 256*20+5)
	change("a circle of two", 8, 256*20+7)
	return bad
}

func checkNoChain(t *testing.T, name string, r []int) {
	t.Helper()
	places, ok := impl.CapsOf(r)
	if places != nil || ok {
		t.Errorf("%s: CapsOf = %v, %v, want nil, false", name, places, ok)
	}
	checkEqual(t, name+": FindCap", impl.FindCap(r, 7), -1)
	checkNotAdded(t, r, 30, 1)
	for _, at := range []int{20, 8, 63, 41} {
		checkNotDropped(t, r, at)
	}
}

func checkNotAdded(t *testing.T, r []int, at int, kind int) {
	t.Helper()
	got, ok := impl.AddCap(r, at, kind)
	checkEqual(t, "AddCap's answer", ok, false)
	checkEqual(t, "AddCap that is not possible", got, r)
}

func checkNotDropped(t *testing.T, r []int, at int) {
	t.Helper()
	got, ok := impl.DropCap(r, at)
	checkEqual(t, "DropCap's answer", ok, false)
	checkEqual(t, "DropCap that is not possible", got, r)
}

func checkCaps(t *testing.T, r []int, want ...int) {
	t.Helper()
	places, ok := impl.CapsOf(r)
	checkEqual(t, "CapsOf's answer", ok, true)
	checkEqual(t, "CapsOf", places, want)
}

func TestRegistersOk(t *testing.T) {
	checkEqual(t, "constants", []int{impl.Registers, impl.FirstCap}, []int{64, 4})
	checkEqual(t, "RegistersOk", impl.RegistersOk(make([]int, 64)), true)
	checkEqual(t, "RegistersOk", impl.RegistersOk(slices.Repeat([]int{65535}, 64)), true)
	for size := range 130 {
		checkEqual(t, "RegistersOk", impl.RegistersOk(make([]int, size)), size == 64)
	}
	for i := range 64 {
		for _, value := range []int{-1, 65536, math.MinInt, math.MaxInt} {
			r := make([]int, 64)
			r[i] = value
			checkEqual(t, "RegistersOk", impl.RegistersOk(r), false)
		}
	}
}

func TestCapsOf(t *testing.T) {
	checkCaps(t, make([]int, 64))
	checkCaps(t, sampleRegisters(), 20, 8, 63, 41)
	checkCaps(t, chainedRegisters(nil, nil))
	checkCaps(t, chainedRegisters([]int{8}, []int{255}), 8)
	var all []int
	for place := 8; place < 64; place++ {
		all = append(all, place)
	}
	checkCaps(t, chainedRegisters(all, slices.Repeat([]int{9}, 56)), all...)
	slices.Reverse(all)
	checkCaps(t, chainedRegisters(all, slices.Repeat([]int{9}, 56)), all...)
}

// TestInvalidChains include chains with circles of every length.
func TestInvalidChains(t *testing.T) {
	for name, r := range badChains() {
		checkNoChain(t, name, r)
	}
	for last := 8; last < 64; last++ {
		for back := 8; back <= last; back++ {
			r := make([]int, 64)
			r[4] = 8
			for place := 8; place < last; place++ {
				r[place] = 256*(place+1) + 7
			}
			r[last] = 256*back + 7
			checkNoChain(t, "circle", r)
		}
	}
}

func TestFindCap(t *testing.T) {
	for kind, want := range map[int]int{
		5: 20, 7: 8, 0: 63, 1: -1, 8: -1, 255: -1, 256: -1, 261: -1, -1: -1, -251: -1, math.MinInt: -1, math.MaxInt: -1,
	} {
		checkEqual(t, "FindCap "+impl.FormatInt(kind), impl.FindCap(sampleRegisters(), kind), want)
	}
	checkEqual(t, "FindCap without any", impl.FindCap(make([]int, 64), 0), -1)
	checkEqual(t, "FindCap 255", impl.FindCap(chainedRegisters([]int{9, 8}, []int{254, 255}), 255), 8)
}

func TestAddCap(t *testing.T) {
	for _, at := range []int{9, 10, 62, 40} {
		for _, kind := range []int{0, 7, 255} {
			want := sampleRegisters()
			want[4], want[at] = at, 256*20+kind
			got, ok := impl.AddCap(sampleRegisters(), at, kind)
			checkEqual(t, "AddCap's answer", ok, true)
			checkEqual(t, "AddCap", got, want)
			checkCaps(t, got, at, 20, 8, 63, 41)
		}
	}
	for _, at := range []int{8, 63} {
		got, ok := impl.AddCap(make([]int, 64), at, 3)
		checkEqual(t, "AddCap's answer", ok, true)
		checkEqual(t, "the registers", []int{got[4], got[at]}, []int{at, 3})
		checkCaps(t, got, at)
	}
	for _, at := range []int{0, 4, 7, 64, 65, -1, 256 + 9, math.MinInt, math.MaxInt, 20, 8, 63, 41} {
		checkNotAdded(t, sampleRegisters(), at, 1)
	}
	for _, kind := range []int{-1, 256, math.MinInt, math.MaxInt} {
		checkNotAdded(t, sampleRegisters(), 9, kind)
	}
}

func TestDropCap(t *testing.T) {
	for _, c := range []struct{ at, changed, value int }{
		{20, 4, 8}, {8, 20, 256*63 + 5}, {63, 8, 256*41 + 7}, {41, 63, 0},
	} {
		want := sampleRegisters()
		want[c.changed] = c.value
		got, ok := impl.DropCap(sampleRegisters(), c.at)
		checkEqual(t, "DropCap's answer", ok, true)
		checkEqual(t, "DropCap", got, want)
	}
	only, ok := impl.DropCap(chainedRegisters([]int{30}, []int{7}), 30)
	checkEqual(t, "DropCap's answer", ok, true)
	checkCaps(t, only)
	for _, at := range []int{0, 4, 9, 7, 64, -1, 256 + 20, math.MinInt, math.MaxInt} {
		checkNotDropped(t, sampleRegisters(), at)
	}
	checkNotDropped(t, make([]int, 64), 0)
}

// TestCapabilityPromise is promise 22: a capability that is added is found
// first. Capabilities are also dropped, and the others stay as they were.
func TestCapabilityPromise(t *testing.T) {
	n := numbers(22)
	added, dropped := 0, 0
	for range 100 {
		r := n.bytes(64)
		r[4] = 0
		var places []int
		kinds := map[int]int{}
		for range 60 {
			at, kind := n.below(70), n.below(6)
			known := slices.Index(places, at)
			if n.below(3) > 0 {
				next, ok := impl.AddCap(r, at, kind)
				checkEqual(t, "AddCap's answer", ok, at >= 8 && at < 64 && known < 0)
				if r = next; ok {
					places, kinds[at] = slices.Insert(places, 0, at), kind
					checkEqual(t, "FindCap of what was added", impl.FindCap(r, kind), at)
					added++
				}
			} else {
				next, ok := impl.DropCap(r, at)
				checkEqual(t, "DropCap's answer", ok, known >= 0)
				if r = next; ok {
					places = slices.Delete(places, known, known+1)
					dropped++
				}
			}
			checkCaps(t, r, places...)
			for kind := range 6 {
				first := slices.IndexFunc(places, func(at int) bool { return kinds[at] == kind })
				want := -1
				if first >= 0 {
					want = places[first]
				}
				checkEqual(t, "FindCap", impl.FindCap(r, kind), want)
			}
		}
	}
	if added < 1000 || dropped < 300 {
		t.Errorf("only %d capabilities were added and %d dropped", added, dropped)
	}
}

func TestCapabilityMemory(t *testing.T) {
	circle := sampleRegisters()
	circle[41] = 256*20 + 7
	for _, registers := range [][]int{sampleRegisters(), circle} {
		r := spareList(registers...)
		added, _ := impl.AddCap(r, 30, 1)
		notAdded, _ := impl.AddCap(r, 20, 1)
		dropped, _ := impl.DropCap(r, 8)
		notDropped, _ := impl.DropCap(r, 30)
		places, _ := impl.CapsOf(r)
		impl.FindCap(r, 7)
		for _, list := range [][]int{added, notAdded, dropped, notDropped, places} {
			overwrite(list)
			checkSpare(t, "the registers", r, registers...)
		}
	}
}
