package tests

import (
	"math"
	"slices"
	"testing"

	"loop.example/g00986/impl"
)

// sampleSizes are sizes for the sample tree; sampleWindows are its windows.
// Beside each other stand windows of equal sizes.
func sampleSizes() []int {
	return []int{0, 0, 0, 64, 0, 16, 32, 16}
}

func sampleWindows() []impl.Bar {
	return []impl.Bar{
		{Size: 128}, {Size: 64}, {}, {Size: 64, Base: 64},
		{Size: 32}, {Size: 16}, {Size: 32, Base: 32}, {Size: 16, Base: 16},
	}
}

// doublingTree is a chain of bridges, each with a device of size 16 and the
// next bridge below it; the last one has a device of size 4096 alone. The
// window of each bridge is twice that of the next one.
func doublingTree(levels int) ([]impl.Node, []int) {
	t, sizes := []impl.Node{{Parent: -1}}, []int{0}
	above := 0
	for range levels {
		t = append(t, impl.Node{Parent: above, Functions: 1}, impl.Node{Parent: above, Device: 1})
		sizes = append(sizes, 16, 0)
		above = len(t) - 1
	}
	return append(t, impl.Node{Parent: above, Functions: 1}), append(sizes, 4096)
}

// aloneBelow puts a tree below a root that has nothing else below it.
func aloneBelow(t []impl.Node, sizes []int) ([]impl.Node, []int) {
	lower := []impl.Node{{Parent: -1}}
	for _, n := range t {
		n.Parent++
		lower = append(lower, n)
	}
	return lower, append([]int{0}, sizes...)
}

func randomSizes(n *numbers, t []impl.Node) []int {
	sizes := make([]int, len(t))
	for k, node := range t {
		if node.Functions > 0 && n.below(5) > 0 {
			sizes[k] = 16 << n.below(9)
		}
	}
	return sizes
}

// eachSized calls check with many valid trees and valid sizes for them.
func eachSized(check func(t []impl.Node, sizes []int)) {
	check(sampleTree(), sampleSizes())
	check(doublingTree(4))
	check(doublingTree(5))
	check(aloneBelow(doublingTree(4)))
	n := numbers(24)
	eachTree(func(t []impl.Node) {
		check(t, make([]int, len(t)))
		for range 3 {
			check(t, randomSizes(&n, t))
		}
	})
}

// badSizes are sizes that are not valid for the sample tree.
func badSizes() [][]int {
	bad := [][]int{nil, {}, sampleSizes()[:7], append(sampleSizes(), 0)}
	for k, n := range sampleTree() {
		sizes := []int{1, 2, 8, 15, 17, 24, 48, 100, 4095, 4097, 8192, 32768, 65536, -1, -16, math.MinInt, math.MaxInt, 1 << 62}
		if n.Functions == 0 {
			sizes = append(sizes, 16, 32, 4096)
		}
		for _, size := range sizes {
			changed := sampleSizes()
			changed[k] = size
			bad = append(bad, changed)
		}
	}
	return bad
}

// windowSize follows the description of WindowSize for valid sizes.
func windowSize(t []impl.Node, sizes []int, k int) int {
	if t[k].Functions > 0 {
		return sizes[k]
	}
	sum := 0
	for _, below := range impl.ChildrenOf(t, k) {
		sum += windowSize(t, sizes, below)
	}
	if sum == 0 {
		return 0
	}
	power := 1
	for power < sum {
		power *= 2
	}
	return power
}

func checkNotAllocated(t *testing.T, tree []impl.Node, sizes []int) {
	t.Helper()
	if windows, ok := impl.Allocate(tree, sizes); windows != nil || ok {
		t.Errorf("Allocate(%+v, %v) = %+v, %v, want nil, false", tree, sizes, windows, ok)
	}
}

func checkAllocated(t *testing.T, tree []impl.Node, sizes []int, want []impl.Bar) {
	t.Helper()
	windows, ok := impl.Allocate(tree, sizes)
	checkEqual(t, "Allocate's answer", ok, true)
	checkEqual(t, "Allocate", windows, want)
}

func TestSizesOk(t *testing.T) {
	eachSized(func(tree []impl.Node, sizes []int) {
		if !impl.SizesOk(tree, sizes) {
			t.Errorf("SizesOk(%+v, %v) = false", tree, sizes)
		}
	})
	for _, size := range []int{0, 16, 32, 64, 128, 256, 512, 1024, 2048, 4096} {
		sizes := sampleSizes()
		sizes[5] = size
		checkEqual(t, "SizesOk", impl.SizesOk(sampleTree(), sizes), true)
	}
}

func TestInvalidSizes(t *testing.T) {
	check := func(tree []impl.Node, sizes []int) {
		checkEqual(t, "SizesOk", impl.SizesOk(tree, sizes), false)
		checkNotAllocated(t, tree, sizes)
		for k := -1; k <= len(tree); k++ {
			checkEqual(t, "WindowSize", impl.WindowSize(tree, sizes, k), -1)
		}
	}
	for _, sizes := range badSizes() {
		check(sampleTree(), sizes)
	}
	for _, tree := range badTrees() {
		check(tree, make([]int, len(tree)))
		check(tree, sampleSizes())
	}
}

func TestWindowSize(t *testing.T) {
	for k, w := range sampleWindows() {
		checkEqual(t, "WindowSize", impl.WindowSize(sampleTree(), sampleSizes(), k), w.Size)
	}
	for _, k := range notNodes(sampleTree()) {
		checkEqual(t, "WindowSize of no node", impl.WindowSize(sampleTree(), sampleSizes(), k), -1)
	}
	eachSized(func(tree []impl.Node, sizes []int) {
		for k := range tree {
			checkEqual(t, "WindowSize", impl.WindowSize(tree, sizes, k), windowSize(tree, sizes, k))
		}
	})
}

func TestAllocate(t *testing.T) {
	checkAllocated(t, sampleTree(), sampleSizes(), sampleWindows())
	checkAllocated(t, sampleTree(), []int{0, 0, 0, 256, 0, 16, 1024, 4096}, []impl.Bar{
		{Size: 32768}, {Size: 16384}, {}, {Size: 256, Base: 16384},
		{Size: 8192}, {Size: 16, Base: 4096}, {Size: 1024, Base: 8192}, {Size: 4096},
	})
	// A device is larger than the bridge beside it, and another has no window.
	checkAllocated(t, sampleTree(), []int{0, 0, 0, 4096, 0, 16, 0, 64}, []impl.Bar{
		{Size: 8192}, {Size: 128, Base: 4096}, {}, {Size: 4096},
		{Size: 128, Base: 4096}, {Size: 16, Base: 4160}, {}, {Size: 64, Base: 4096},
	})
}

// TestBridgesWithoutDevices have no window, and neither has a bridge above
// nothing but such bridges, nor one whose devices need no room.
func TestBridgesWithoutDevices(t *testing.T) {
	for size := 1; size <= 12; size++ {
		checkAllocated(t, chain(size), make([]int, size), make([]impl.Bar, size))
	}
	checkAllocated(t, sampleTree(), make([]int, 8), make([]impl.Bar, 8))
	tree := []impl.Node{
		{Parent: -1}, {Parent: 0}, {Parent: 1}, {Parent: 0, Device: 1}, {Parent: 0, Device: 2, Functions: 1},
		{Parent: 3, Functions: 1}, {Parent: 0, Device: 3, Functions: 1},
	}
	checkAllocated(t, tree, []int{0, 0, 0, 0, 32, 0, 16}, []impl.Bar{
		{Size: 64}, {}, {}, {}, {Size: 32}, {}, {Size: 16, Base: 32},
	})
}

// TestAllAddresses: 65536 addresses may be given away, but no more.
func TestAllAddresses(t *testing.T) {
	tree, sizes := doublingTree(4)
	windows, ok := impl.Allocate(tree, sizes)
	if !ok || windows[0] != (impl.Bar{Size: 65536}) || windows[9] != (impl.Bar{Size: 4096}) || windows[1] != (impl.Bar{Size: 16, Base: 32768}) {
		t.Errorf("Allocate = %+v, %v", windows, ok)
	}
	// The window of a bridge may be larger than a valid register.
	tree, sizes = aloneBelow(tree, sizes)
	windows, ok = impl.Allocate(tree, sizes)
	if !ok || windows[0] != (impl.Bar{Size: 65536}) || windows[1] != (impl.Bar{Size: 65536}) || !impl.IsNested(windows, tree) {
		t.Errorf("Allocate = %+v, %v", windows, ok)
	}
	checkNotAllocated(t, append(tree, impl.Node{Parent: 0, Device: 1, Functions: 1}), append(sizes, 16))
	tree, sizes = doublingTree(5)
	checkNotAllocated(t, tree, sizes)
	checkEqual(t, "WindowSize of the root", impl.WindowSize(tree, sizes, 0), 131072)
}

// TestOrderOfWindows checks that windows beside each other follow one another
// in the order of their sizes and then of their nodes.
func TestOrderOfWindows(t *testing.T) {
	eachSized(func(tree []impl.Node, sizes []int) {
		windows, ok := impl.Allocate(tree, sizes)
		if !ok {
			if windowSize(tree, sizes, 0) <= 65536 {
				t.Errorf("Allocate(%+v, %v) = false", tree, sizes)
			}
			return
		}
		for k := range tree {
			below := impl.ChildrenOf(tree, k)
			slices.Sort(below)
			slices.SortStableFunc(below, func(a, b int) int { return windowSize(tree, sizes, b) - windowSize(tree, sizes, a) })
			base := windows[k].Base
			for _, i := range below {
				want := impl.Bar{Size: windowSize(tree, sizes, i)}
				if want.Size > 0 {
					want.Base = base
				}
				base += want.Size
				checkEqual(t, "the window of a node", windows[i], want)
			}
		}
	})
}

// isNested follows the description of IsNested, address by address, for windows
// with small numbers.
func isNested(a []impl.Bar, tree []impl.Node) bool {
	for k := 1; k < len(tree); k++ {
		for address := a[k].Base; address < a[k].Base+a[k].Size; address++ {
			if !windowHas(a[tree[k].Parent], address) {
				return false
			}
			for _, i := range impl.ChildrenOf(tree, tree[k].Parent) {
				if i != k && windowHas(a[i], address) {
					return false
				}
			}
		}
	}
	return true
}

func windowHas(w impl.Bar, address int) bool {
	return w.Size > 0 && w.Base <= address && address < w.Base+w.Size
}

func TestIsNested(t *testing.T) {
	checkEqual(t, "IsNested", impl.IsNested(sampleWindows(), sampleTree()), true)
	n := numbers(124)
	nested, not := 0, 0
	for range 20 {
		eachTree(func(tree []impl.Node) {
			// The windows need not be valid registers, and sizes can be negative.
			a := make([]impl.Bar, len(tree))
			a[0] = impl.Bar{Size: n.below(30), Base: n.below(9) - 4}
			for k := 1; k < len(tree); k++ {
				a[k] = impl.Bar{Size: max(-1, n.below(16)-n.below(16)), Base: a[tree[k].Parent].Base + n.below(20) - 3}
			}
			want := isNested(a, tree)
			if impl.IsNested(a, tree) != want {
				t.Errorf("IsNested(%+v, %+v) = %v", a, tree, !want)
			}
			if want {
				nested++
			} else {
				not++
			}
		})
	}
	if nested < 500 || not < 500 {
		t.Errorf("only %d lists of windows are nested and %d are not", nested, not)
	}
}

func TestWindowsThatAreNotNested(t *testing.T) {
	for _, c := range []struct {
		k    int
		w    impl.Bar
		want bool
	}{
		{5, impl.Bar{Size: 16, Base: 16}, false}, {5, impl.Bar{Size: 16, Base: 32}, false}, {5, impl.Bar{Size: 16, Base: -1}, false},
		{5, impl.Bar{Size: 17}, false}, {5, impl.Bar{Size: 8, Base: 8}, true}, {5, impl.Bar{Size: 1, Base: 15}, true},
		{5, impl.Bar{Base: 1000}, true}, {5, impl.Bar{Size: -16, Base: 1000}, true}, {5, impl.Bar{Size: math.MinInt, Base: math.MinInt}, true},
		{5, impl.Bar{Size: math.MaxInt, Base: 1}, false}, {5, impl.Bar{Size: 1, Base: math.MaxInt}, false},
		{5, impl.Bar{Size: math.MaxInt, Base: math.MaxInt}, false}, {5, impl.Bar{Size: 16, Base: math.MinInt}, false},
		{2, impl.Bar{Size: 1, Base: 64}, false}, {2, impl.Bar{Size: 1, Base: 128}, false},
		{4, impl.Bar{}, false}, {4, impl.Bar{Size: 31}, false}, {1, impl.Bar{Size: 65}, false},
		// The window of the root lies within nothing.
		{0, impl.Bar{Size: 1000, Base: -500}, true}, {0, impl.Bar{Size: 127}, false}, {0, impl.Bar{Size: 128, Base: 1}, false},
		{0, impl.Bar{Size: math.MaxInt}, true}, {0, impl.Bar{Size: math.MaxInt, Base: -1 << 62}, true}, {0, impl.Bar{Size: math.MaxInt, Base: math.MinInt}, false},
	} {
		windows := sampleWindows()
		windows[c.k] = c.w
		if got := impl.IsNested(windows, sampleTree()); got != c.want {
			t.Errorf("IsNested with %+v as window %d = %v", c.w, c.k, got)
		}
	}
	for base := range 6 {
		windows := sampleWindows()
		windows[5], windows[7] = impl.Bar{Size: 1, Base: 3}, impl.Bar{Size: 1, Base: base}
		checkEqual(t, "IsNested of windows with one address", impl.IsNested(windows, sampleTree()), base != 3)
	}
	for _, windows := range [][]impl.Bar{nil, sampleWindows()[:7], append(sampleWindows(), impl.Bar{})} {
		checkEqual(t, "IsNested of another number of windows", impl.IsNested(windows, sampleTree()), false)
	}
	for _, tree := range badTrees() {
		checkEqual(t, "IsNested in an invalid tree", impl.IsNested(make([]impl.Bar, len(tree)), tree), false)
	}
}

func TestTotalSize(t *testing.T) {
	for _, c := range []struct {
		sizes []int
		want  int
	}{
		{nil, 0}, {[]int{}, 0}, {[]int{7}, 7}, {[]int{16, 0, 32, 16}, 64}, {[]int{-5, 3}, -2}, {[]int{math.MaxInt, math.MinInt}, -1},
	} {
		checkEqual(t, "TotalSize", impl.TotalSize(c.sizes), c.want)
	}
}

// TestAllocationPromise is promise 24: windows are aligned, lie within those
// above them, and do not overlap.
func TestAllocationPromise(t *testing.T) {
	eachSized(func(tree []impl.Node, sizes []int) {
		windows, ok := impl.Allocate(tree, sizes)
		if !ok {
			return
		}
		checkEqual(t, "IsNested", impl.IsNested(windows, tree), true)
		for k, w := range windows {
			if tree[k].Functions > 0 {
				checkEqual(t, "the size of a device", w.Size, sizes[k])
				checkEqual(t, "BarOk", impl.BarOk(w), true)
			}
			if w.Size == 0 {
				checkEqual(t, "a window of size 0", w, impl.Bar{})
				continue
			}
			if w.Base%w.Size != 0 || w.Base < 0 || w.Base+w.Size > 65536 {
				t.Errorf("the window %+v is not aligned", w)
			}
			if above := windows[max(0, tree[k].Parent)]; w.Base < above.Base || w.Base+w.Size > above.Base+above.Size {
				t.Errorf("%+v does not lie within %+v", w, above)
			}
			for i, other := range windows {
				related := impl.IsBelow(tree, i, k) || impl.IsBelow(tree, k, i)
				if !related && w.Base < other.Base+other.Size && other.Base < w.Base+w.Size {
					t.Errorf("%+v and %+v overlap", w, other)
				}
			}
		}
	})
}

func TestAllocationMemory(t *testing.T) {
	spare := append(sampleTree(), impl.Node{Parent: 77})
	windows := append(sampleWindows(), impl.Bar{Size: 77})
	sizes := spareList(sampleSizes()...)
	for _, call := range []func(){
		func() { impl.SizesOk(spare[:8], sizes) },
		func() { impl.WindowSize(spare[:8], sizes, 0) },
		func() { impl.Allocate(spare[:8], sizes) },
		func() { impl.IsNested(windows[:8], spare[:8]) },
		func() { impl.TotalSize(sizes) },
	} {
		call()
		checkSpare(t, "the sizes", sizes, sampleSizes()...)
		checkEqual(t, "the tree with what is behind it", spare, append(sampleTree(), impl.Node{Parent: 77}))
		checkEqual(t, "the windows with what is behind them", windows, append(sampleWindows(), impl.Bar{Size: 77}))
	}
}
