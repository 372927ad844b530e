package tests

import (
	"math"
	"slices"
	"testing"

	"loop.example/g00986/impl"
)

// badVirtuals are not valid, each for one reason.
func badVirtuals() []impl.Virtual {
	bad := []impl.Virtual{{}}
	for _, n := range []int{0, -1, 256, math.MinInt, math.MaxInt} {
		bad = append(bad, impl.Virtual{First: n, Stride: 3, Count: 4}, impl.Virtual{First: 2, Stride: n, Count: 4})
	}
	for _, n := range []int{-1, 65, math.MinInt, math.MaxInt} {
		bad = append(bad, impl.Virtual{First: 2, Stride: 3, Count: n})
	}
	return bad
}

// eachVirtual calls check with many ids and valid virtual functions.
func eachVirtual(check func(base int, v impl.Virtual)) {
	n := numbers(37)
	for _, v := range []impl.Virtual{
		{First: 1, Stride: 1}, {First: 1, Stride: 1, Count: 64}, {First: 255, Stride: 255, Count: 64}, {First: 255, Stride: 1, Count: 1}, {First: 2, Stride: 3, Count: 4},
	} {
		for _, base := range []int{0, 16, 191, 192, 250, 255} {
			check(base, v)
		}
	}
	for range 400 {
		check(n.below(256), impl.Virtual{First: 1 + n.below(1+n.below(255)), Stride: 1 + n.below(1+n.below(60)), Count: n.below(65)})
	}
}

// virtualIds are the ids of virtual functions, up to the first one that is no
// id.
func virtualIds(base int, v impl.Virtual) []int {
	var ids []int
	for id := base + v.First; id < 256 && len(ids) < v.Count; id += v.Stride {
		ids = append(ids, id)
	}
	return ids
}

func checkNoVirtual(t *testing.T, base int, v impl.Virtual) {
	t.Helper()
	if ids, ok := impl.VirtualIds(base, v); ids != nil || ok {
		t.Errorf("VirtualIds(%d, %+v) = %v, %v, want nil, false", base, v, ids, ok)
	}
}

func TestVirtualOk(t *testing.T) {
	eachVirtual(func(_ int, v impl.Virtual) {
		checkEqual(t, "VirtualOk", impl.VirtualOk(v), true)
	})
}

func TestInvalidVirtuals(t *testing.T) {
	check := func(base int, v impl.Virtual) {
		for _, k := range []int{0, 1, 3, -1, 64, math.MaxInt} {
			checkEqual(t, "VirtualId", impl.VirtualId(base, v, k), -1)
		}
		checkNoVirtual(t, base, v)
		for id := -2; id <= 257; id++ {
			checkEqual(t, "VirtualOwner", impl.VirtualOwner(base, v, id), -1)
		}
	}
	for _, v := range badVirtuals() {
		checkEqual(t, "VirtualOk", impl.VirtualOk(v), false)
		for _, base := range []int{0, 16, 255} {
			check(base, v)
		}
	}
	for _, base := range notIds() {
		check(base, impl.Virtual{First: 2, Stride: 3, Count: 4})
		check(base, impl.Virtual{First: 2, Stride: 3})
		checkEqual(t, "VirtualRoom", impl.VirtualRoom(base, 2, 3), -1)
	}
	// The sum would be an id.
	check(-1, impl.Virtual{First: 2, Stride: 3, Count: 4})
	check(-200, impl.Virtual{First: 255, Stride: 1, Count: 4})
}

func TestVirtualId(t *testing.T) {
	eachVirtual(func(base int, v impl.Virtual) {
		ids := virtualIds(base, v)
		for k := -1; k <= 65; k++ {
			want := -1
			if k >= 0 && k < len(ids) {
				want = ids[k]
			}
			if got := impl.VirtualId(base, v, k); got != want {
				t.Errorf("VirtualId(%d, %+v, %d) = %d, want %d", base, v, k, got, want)
			}
		}
		for _, k := range []int{math.MinInt, math.MaxInt, math.MaxInt / 3, 1 << 62} {
			checkEqual(t, "VirtualId", impl.VirtualId(base, v, k), -1)
		}
		got, ok := impl.VirtualIds(base, v)
		checkEqual(t, "VirtualIds' answer", ok, len(ids) == v.Count)
		if ok {
			checkEqual(t, "VirtualIds", got, ids)
		} else {
			checkNoVirtual(t, base, v)
		}
	})
}

// TestIdsBeyondTheLastOne belong to no virtual function.
func TestIdsBeyondTheLastOne(t *testing.T) {
	v := impl.Virtual{First: 5, Stride: 10, Count: 4}
	for k, want := range []int{225, 235, 245, 255} {
		checkEqual(t, "VirtualId", impl.VirtualId(220, v, k), want)
	}
	got, ok := impl.VirtualIds(220, v)
	checkEqual(t, "VirtualIds' answer", ok, true)
	checkEqual(t, "VirtualIds", got, []int{225, 235, 245, 255})
	for k, want := range []int{226, 236, 246, -1} {
		checkEqual(t, "VirtualId", impl.VirtualId(221, v, k), want)
	}
	checkNoVirtual(t, 221, v)
	checkEqual(t, "VirtualOwner", impl.VirtualOwner(221, v, 246), 2)
	checkEqual(t, "VirtualOwner", impl.VirtualOwner(221, v, 256), -1)
	checkNoVirtual(t, 251, v)
	checkEqual(t, "VirtualId", impl.VirtualId(251, v, 0), -1)
	checkNoVirtual(t, 220, impl.Virtual{First: 5, Stride: 10, Count: 5})
	checkEqual(t, "VirtualRoom", impl.VirtualRoom(220, 5, 10), 4)
	checkEqual(t, "VirtualRoom", impl.VirtualRoom(221, 5, 10), 3)
	checkEqual(t, "VirtualRoom", impl.VirtualRoom(250, 5, 10), 1)
	checkEqual(t, "VirtualRoom", impl.VirtualRoom(251, 5, 10), 0)
}

func TestNoVirtualFunctions(t *testing.T) {
	for _, base := range []int{0, 16, 255} {
		ids, ok := impl.VirtualIds(base, impl.Virtual{First: 255, Stride: 255})
		checkEqual(t, "VirtualIds' answer", ok, true)
		checkEqual(t, "VirtualIds", ids, []int{})
		checkEqual(t, "VirtualId", impl.VirtualId(base, impl.Virtual{First: 1, Stride: 1}, 0), -1)
	}
}

func TestVirtualOwner(t *testing.T) {
	eachVirtual(func(base int, v impl.Virtual) {
		ids := virtualIds(base, v)
		for id := -2; id <= 260; id++ {
			if got, want := impl.VirtualOwner(base, v, id), slices.Index(ids, id); got != want {
				t.Errorf("VirtualOwner(%d, %+v, %d) = %d, want %d", base, v, id, got, want)
			}
		}
		for _, id := range []int{math.MinInt, math.MaxInt} {
			checkEqual(t, "VirtualOwner", impl.VirtualOwner(base, v, id), -1)
		}
	})
}

func TestVirtualRoom(t *testing.T) {
	for _, c := range []struct{ base, first, stride, want int }{
		{0, 1, 1, 64}, {0, 255, 255, 1}, {191, 1, 1, 64}, {192, 1, 1, 63}, {255, 1, 1, 0}, {254, 1, 1, 1}, {254, 1, 255, 1},
		{0, 4, 4, 63}, {0, 3, 4, 64}, {250, 2, 3, 2},
		{16, 0, 3, -1}, {16, 2, 0, -1}, {16, 256, 3, -1}, {16, 2, 256, -1}, {16, -1, 3, -1}, {16, 2, -1, -1},
		{16, math.MinInt, 3, -1}, {16, 2, math.MinInt, -1}, {16, math.MaxInt, 3, -1}, {16, 2, math.MaxInt, -1},
	} {
		if got := impl.VirtualRoom(c.base, c.first, c.stride); got != c.want {
			t.Errorf("VirtualRoom(%d, %d, %d) = %d, want %d", c.base, c.first, c.stride, got, c.want)
		}
	}
	eachVirtual(func(base int, v impl.Virtual) {
		v.Count = 64
		checkEqual(t, "VirtualRoom", impl.VirtualRoom(base, v.First, v.Stride), len(virtualIds(base, v)))
	})
}

// TestVirtualPromise is promise 37: virtual functions have different ids. Each
// is found again by its id, and none has that of the function that appears as
// them.
func TestVirtualPromise(t *testing.T) {
	found := 0
	eachVirtual(func(base int, v impl.Virtual) {
		v.Count = min(v.Count, impl.VirtualRoom(base, v.First, v.Stride))
		ids, ok := impl.VirtualIds(base, v)
		checkEqual(t, "VirtualIds' answer", ok, true)
		checkEqual(t, "the number of ids", len(ids), v.Count)
		for k, id := range ids {
			if !impl.IsId(id) || id == base || slices.Contains(ids[:k], id) {
				t.Errorf("%d of %v is no id of its own", id, ids)
			}
			checkEqual(t, "VirtualOwner", impl.VirtualOwner(base, v, id), k)
			checkEqual(t, "VirtualId", impl.VirtualId(base, v, k), id)
			found++
		}
	})
	if found < 1000 {
		t.Errorf("there were only %d virtual functions", found)
	}
}
