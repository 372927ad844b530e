package tests

import (
	"math"
	"slices"
	"testing"

	"loop.example/g00986/impl"
)

// firstWith is the first of some nodes whose window has the address, or -1. The
// windows have small numbers.
func firstWith(windows []impl.Bar, nodes []int, address int) int {
	for _, k := range nodes {
		if windowHas(windows[k], address) {
			return k
		}
	}
	return -1
}

// downTo follows the description of the way down from node k.
func downTo(tree []impl.Node, windows []impl.Bar, k int, address int) []int {
	if tree[k].Functions > 0 {
		return []int{k}
	}
	next := firstWith(windows, impl.ChildrenOf(tree, k), address)
	if next < 0 {
		return nil
	}
	rest := downTo(tree, windows, next, address)
	if rest == nil {
		return nil
	}
	return append([]int{k}, rest...)
}

// routeTo follows the description of RouteToAddress for a node of the tree.
func routeTo(tree []impl.Node, windows []impl.Bar, from int, address int) []int {
	if downTo(tree, windows, 0, address) == nil {
		return nil
	}
	path := impl.PathTo(tree, from)
	slices.Reverse(path)
	for i, k := range path {
		if k == 0 || tree[k].Functions == 0 && windowHas(windows[k], address) {
			down := downTo(tree, windows, k, address)
			if down == nil {
				return nil
			}
			return append(slices.Clone(path[:i]), down...)
		}
	}
	return nil
}

// devicesIn are the devices of a tree, in ascending order.
func devicesIn(tree []impl.Node) []int {
	var devices []int
	for k, n := range tree {
		if n.Functions > 0 {
			devices = append(devices, k)
		}
	}
	return devices
}

// checkNowhere checks that no device has the address and no way leads to it.
func checkNowhere(t *testing.T, tree []impl.Node, windows []impl.Bar, address int) {
	t.Helper()
	if owner := impl.OwnerOfAddress(tree, windows, address); owner != -1 {
		t.Errorf("OwnerOfAddress(%+v, %+v, %d) = %d", tree, windows, address, owner)
	}
	if down := impl.DownToAddress(tree, windows, address); down != nil {
		t.Errorf("DownToAddress(%+v, %+v, %d) = %v", tree, windows, address, down)
	}
	for from := -1; from <= len(tree); from++ {
		if route := impl.RouteToAddress(tree, windows, from, address); route != nil {
			t.Errorf("RouteToAddress(%+v, %+v, %d, %d) = %v", tree, windows, from, address, route)
		}
	}
}

func TestOwnerOfAddress(t *testing.T) {
	for _, c := range []struct{ first, last, want int }{{0, 15, 5}, {16, 31, 7}, {32, 63, 6}, {64, 127, 3}, {-9, -1, -1}, {128, 999, -1}} {
		for address := c.first; address <= c.last; address++ {
			checkEqual(t, "OwnerOfAddress", impl.OwnerOfAddress(sampleTree(), sampleWindows(), address), c.want)
		}
	}
	// The least one of several devices, wherever they are in the tree; a bridge
	// is none.
	windows := slices.Repeat([]impl.Bar{{Size: 16, Base: 100}}, 8)
	checkEqual(t, "OwnerOfAddress", impl.OwnerOfAddress(sampleTree(), windows, 107), 3)
	windows[3].Size = 0
	checkEqual(t, "OwnerOfAddress", impl.OwnerOfAddress(sampleTree(), windows, 107), 5)
	windows[5].Size = -16
	checkEqual(t, "OwnerOfAddress", impl.OwnerOfAddress(sampleTree(), windows, 107), 6)
	windows[6].Base = 108
	checkEqual(t, "OwnerOfAddress", impl.OwnerOfAddress(sampleTree(), windows, 107), 7)
	windows[7].Base = 91
	checkEqual(t, "OwnerOfAddress", impl.OwnerOfAddress(sampleTree(), windows, 107), -1)
}

func TestDownToAddress(t *testing.T) {
	for address, want := range map[int][]int{
		0: {0, 1, 4, 5}, 15: {0, 1, 4, 5}, 16: {0, 1, 4, 7}, 31: {0, 1, 4, 7}, 32: {0, 1, 6}, 63: {0, 1, 6}, 64: {0, 3}, 127: {0, 3},
		-1: nil, 128: nil, 65535: nil, math.MinInt: nil, math.MaxInt: nil,
	} {
		checkEqual(t, "DownToAddress", impl.DownToAddress(sampleTree(), sampleWindows(), address), want)
	}
	// The first node is the first one in the order of the devices, and the
	// window of the root does not matter.
	windows := slices.Repeat([]impl.Bar{{Size: 16, Base: 100}}, 8)
	windows[0], windows[3] = impl.Bar{}, impl.Bar{}
	checkEqual(t, "DownToAddress", impl.DownToAddress(sampleTree(), windows, 107), []int{0, 1, 6})
	windows[6] = impl.Bar{}
	checkEqual(t, "DownToAddress", impl.DownToAddress(sampleTree(), windows, 107), []int{0, 1, 4, 7})
}

func TestRouteToAddress(t *testing.T) {
	for _, c := range []struct {
		from, address int
		want          []int
	}{
		{5, 20, []int{5, 4, 7}}, {5, 40, []int{5, 4, 1, 6}}, {6, 3, []int{6, 1, 4, 5}}, {7, 100, []int{7, 4, 1, 0, 3}},
		{2, 3, []int{2, 0, 1, 4, 5}}, {3, 35, []int{3, 0, 1, 6}}, {0, 70, []int{0, 3}}, {4, 20, []int{4, 7}}, {4, 35, []int{4, 1, 6}},
		{1, 70, []int{1, 0, 3}},
		// A device that asks for its own address goes up to a bridge first.
		{5, 3, []int{5, 4, 5}}, {3, 64, []int{3, 0, 3}},
	} {
		checkEqual(t, "RouteToAddress", impl.RouteToAddress(sampleTree(), sampleWindows(), c.from, c.address), c.want)
	}
	for _, from := range notNodes(sampleTree()) {
		if route := impl.RouteToAddress(sampleTree(), sampleWindows(), from, 20); route != nil {
			t.Errorf("RouteToAddress from %d = %v", from, route)
		}
	}
}

// TestWaysThatEndAtABridge: the root knows a way to the address, but a bridge
// that claims it does not.
func TestWaysThatEndAtABridge(t *testing.T) {
	tree := []impl.Node{{Parent: -1}, {Parent: 0}, {Parent: 0, Device: 1}, {Parent: 1, Functions: 1}, {Parent: 2, Functions: 1}}
	windows := []impl.Bar{{Size: 64}, {Size: 16}, {Size: 16}, {Size: 16}, {Size: 16, Base: 16}}
	for from, want := range [][]int{{0, 1, 3}, {1, 3}, nil, {3, 1, 3}, nil} {
		checkEqual(t, "RouteToAddress", impl.RouteToAddress(tree, windows, from, 5), want)
	}
	// Now it is the root that does not know a way, although a bridge does.
	windows = []impl.Bar{{Size: 64}, {Size: 16}, {Size: 16}, {Size: 16, Base: 16}, {Size: 16}}
	checkEqual(t, "OwnerOfAddress", impl.OwnerOfAddress(tree, windows, 5), 4)
	for from := range tree {
		checkEqual(t, "RouteToAddress", impl.RouteToAddress(tree, windows, from, 5), []int(nil))
	}
}

// TestAddressesBetweenWindows belong to nobody, although the windows of bridges
// cover them.
func TestAddressesBetweenWindows(t *testing.T) {
	sizes := []int{0, 0, 0, 64, 0, 16, 64, 32}
	windows, _ := impl.Allocate(sampleTree(), sizes)
	for address := -2; address < 300; address++ {
		if firstWith(windows, devicesIn(sampleTree()), address) < 0 {
			checkNowhere(t, sampleTree(), windows, address)
		}
	}
	checkEqual(t, "the bridge's window", windows[4], impl.Bar{Size: 64})
	checkNowhere(t, sampleTree(), windows, 48)
	checkNowhere(t, sampleTree(), windows, 63)
	checkEqual(t, "DownToAddress in front of the gap", impl.DownToAddress(sampleTree(), windows, 47), []int{0, 1, 4, 5})
	checkEqual(t, "DownToAddress behind the gap", impl.DownToAddress(sampleTree(), windows, 64), []int{0, 1, 6})
	for _, address := range []int{-1, 65535, 65536, math.MinInt, math.MaxInt} {
		checkNowhere(t, sampleTree(), windows, address)
		checkNowhere(t, sampleTree(), make([]impl.Bar, 8), address)
		checkNowhere(t, []impl.Node{{Parent: -1}}, []impl.Bar{{Size: 65536}}, address)
	}
}

func TestAddressesOfOtherWindows(t *testing.T) {
	for _, windows := range [][]impl.Bar{nil, sampleWindows()[:7], append(sampleWindows(), impl.Bar{})} {
		checkNowhere(t, sampleTree(), windows, 20)
		checkNowhere(t, sampleTree(), windows, 70)
	}
	for _, tree := range badTrees() {
		checkNowhere(t, tree, slices.Repeat([]impl.Bar{{Size: 64}}, len(tree)), 20)
	}
}

// TestLargeWindows are too large for a register, as that of a bridge may be.
func TestLargeWindows(t *testing.T) {
	tree, sizes := aloneBelow(doublingTree(4))
	windows, _ := impl.Allocate(tree, sizes)
	checkEqual(t, "OwnerOfAddress", impl.OwnerOfAddress(tree, windows, 4095), 10)
	checkEqual(t, "DownToAddress", impl.DownToAddress(tree, windows, 32770), []int{0, 1, 2})
	checkEqual(t, "RouteToAddress", impl.RouteToAddress(tree, windows, 10, 32770), []int{10, 9, 7, 5, 3, 1, 2})
	checkEqual(t, "OffsetOf", impl.OffsetOf(windows, 1, 65535), 65535)
	checkEqual(t, "OffsetOf", impl.OffsetOf(windows, 1, 65536), -1)
	pair := []impl.Node{{Parent: -1}, {Parent: 0, Functions: 1}}
	for _, c := range []struct {
		w       impl.Bar
		address int
		offset  int
	}{
		{impl.Bar{Size: math.MaxInt}, math.MaxInt - 1, math.MaxInt - 1}, {impl.Bar{Size: math.MaxInt}, math.MaxInt, -1},
		{impl.Bar{Size: 9, Base: math.MaxInt}, math.MaxInt, 0}, {impl.Bar{Size: 9, Base: math.MaxInt}, math.MinInt, -1},
		{impl.Bar{Size: math.MaxInt, Base: math.MinInt}, -2, math.MaxInt - 1}, {impl.Bar{Size: math.MaxInt, Base: math.MinInt}, -1, -1},
		{impl.Bar{Size: 16, Base: -8}, -8, 0}, {impl.Bar{Size: 16, Base: -8}, 7, 15}, {impl.Bar{Size: 17, Base: 3}, 19, 16},
	} {
		owner := -1
		if c.offset >= 0 {
			owner = 1
		}
		windows := []impl.Bar{{}, c.w}
		checkEqual(t, "OffsetOf", impl.OffsetOf(windows, 1, c.address), c.offset)
		checkEqual(t, "OwnerOfAddress", impl.OwnerOfAddress(pair, windows, c.address), owner)
	}
}

// TestAnyWindows compares the functions with their descriptions for windows
// that need not be nested.
func TestAnyWindows(t *testing.T) {
	n := numbers(25)
	routes := 0
	for range 3 {
		eachTree(func(tree []impl.Node) {
			windows := make([]impl.Bar, len(tree))
			for k := range windows {
				windows[k] = impl.Bar{Size: n.below(14) - 1, Base: n.below(5)}
			}
			for address := -1; address < 14; address += 3 {
				owner := firstWith(windows, devicesIn(tree), address)
				checkEqual(t, "OwnerOfAddress", impl.OwnerOfAddress(tree, windows, address), owner)
				checkEqual(t, "DownToAddress", impl.DownToAddress(tree, windows, address), downTo(tree, windows, 0, address))
				for from := range tree {
					want := routeTo(tree, windows, from, address)
					checkEqual(t, "RouteToAddress", impl.RouteToAddress(tree, windows, from, address), want)
					if want != nil {
						routes++
					}
				}
			}
		})
	}
	if routes < 1000 {
		t.Errorf("there were only %d ways", routes)
	}
}

func TestOffsetOf(t *testing.T) {
	for k, w := range sampleWindows() {
		for address := -1; address <= 130; address++ {
			want := -1
			if windowHas(w, address) {
				want = address - w.Base
			}
			checkEqual(t, "OffsetOf", impl.OffsetOf(sampleWindows(), k, address), want)
		}
	}
	for _, k := range notNodes(sampleTree()) {
		checkEqual(t, "OffsetOf no window", impl.OffsetOf(sampleWindows(), k, 0), -1)
	}
	for _, w := range []impl.Bar{{}, {Size: -5}, {Size: -5, Base: 3}, {Size: math.MinInt, Base: 3}} {
		for _, address := range []int{-1, 0, 1, 3} {
			checkEqual(t, "OffsetOf a window without addresses", impl.OffsetOf([]impl.Bar{w}, 0, address), -1)
		}
	}
	checkEqual(t, "OffsetOf nothing", impl.OffsetOf(nil, 0, 0), -1)
}

// TestAddressPromise is promise 25: a request comes to the device that owns the
// address, from everywhere.
func TestAddressPromise(t *testing.T) {
	reached := 0
	eachSized(func(tree []impl.Node, sizes []int) {
		windows, ok := impl.Allocate(tree, sizes)
		if !ok {
			return
		}
		for _, k := range devicesIn(tree) {
			for offset := 0; offset < sizes[k]; offset += max(1, sizes[k]/2-1) {
				address := windows[k].Base + offset
				checkEqual(t, "OwnerOfAddress", impl.OwnerOfAddress(tree, windows, address), k)
				checkEqual(t, "OffsetOf", impl.OffsetOf(windows, k, address), offset)
				checkEqual(t, "DownToAddress", impl.DownToAddress(tree, windows, address), impl.PathTo(tree, k))
				for from := range tree {
					want := impl.PathBetween(tree, from, k)
					if from == k {
						want = []int{k, tree[k].Parent, k}
					}
					checkEqual(t, "RouteToAddress", impl.RouteToAddress(tree, windows, from, address), want)
					reached++
				}
			}
		}
	})
	if reached < 1000 {
		t.Errorf("only %d requests came to a device", reached)
	}
}

func TestAddressMemory(t *testing.T) {
	spare := append(sampleTree(), impl.Node{Parent: 77})
	windows := append(sampleWindows(), impl.Bar{Size: 77})
	impl.OwnerOfAddress(spare[:8], windows[:8], 20)
	impl.OffsetOf(windows[:8], 5, 3)
	overwrite(impl.DownToAddress(spare[:8], windows[:8], 20))
	overwrite(impl.RouteToAddress(spare[:8], windows[:8], 5, 20))
	checkEqual(t, "the tree with what is behind it", spare, append(sampleTree(), impl.Node{Parent: 77}))
	checkEqual(t, "the windows with what is behind them", windows, append(sampleWindows(), impl.Bar{Size: 77}))
}
