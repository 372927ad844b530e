package tests

import (
	"math"
	"slices"
	"testing"

	"loop.example/g00986/impl"
)

// ownersOf finds, for each id of a function in a tree, the node that has it.
func ownersOf(tree []impl.Node) (impl.Numbers, map[int]int) {
	n, _ := impl.Enumerate(tree)
	owners := map[int]int{}
	for k := range tree {
		for function := range 4 {
			if id := impl.NodeId(tree, n, k, function); id >= 0 {
				owners[id] = k
			}
		}
	}
	return n, owners
}

func checkNoRoute(t *testing.T, tree []impl.Node, n impl.Numbers, from int, id int) {
	t.Helper()
	if route := impl.RouteToId(tree, n, from, id); route != nil {
		t.Errorf("RouteToId(%+v, .., %d, %d) = %v, want nil", tree, from, id, route)
	}
}

func checkNotDown(t *testing.T, tree []impl.Node, n impl.Numbers, id int) {
	t.Helper()
	if down := impl.DownToId(tree, n, id); down != nil {
		t.Errorf("DownToId(%+v, .., %d) = %v, want nil", tree, id, down)
	}
	checkNoRoute(t, tree, n, 0, id)
}

func TestDownToId(t *testing.T) {
	for _, c := range []struct {
		ids  []int
		want []int
	}{
		{[]int{0, 1, 2, 3}, []int{0, 3}}, {[]int{4}, []int{0, 1}}, {[]int{12}, []int{0, 2}}, {[]int{24}, []int{0, 1, 4}},
		{[]int{44}, []int{0, 1, 4, 5}}, {[]int{16, 17}, []int{0, 1, 6}}, {[]int{36, 37, 38}, []int{0, 1, 4, 7}},
	} {
		for _, id := range c.ids {
			checkEqual(t, "DownToId", impl.DownToId(sampleTree(), sampleNumbers(), id), c.want)
		}
	}
}

// TestIdsThatNoFunctionHas tries a device that is not there, a function that
// its node does not have, and a bus that is not there or has no nodes.
func TestIdsThatNoFunctionHas(t *testing.T) {
	for _, id := range []int{
		8, 20, 28, 32, 40, // no device
		5, 6, 7, 13, 15, 25, 27, // bridges have function 0 alone
		18, 19, 39, 45, 46, 47, // no function of the device
		48, 52, 63, // the bus of a bridge without nodes below
		64, 100, 255, // no bus
	} {
		checkNotDown(t, sampleTree(), sampleNumbers(), id)
	}
	eachTree(func(tree []impl.Node) {
		n, owners := ownersOf(tree)
		for id := range 256 {
			if _, is := owners[id]; !is {
				checkNotDown(t, tree, n, id)
			}
		}
		for _, id := range notIds() {
			checkNotDown(t, tree, n, id)
		}
	})
}

func TestRouteToId(t *testing.T) {
	for _, c := range []struct {
		from, id int
		want     []int
	}{
		{0, 37, []int{0, 1, 4, 7}}, {5, 37, []int{5, 4, 7}}, {6, 44, []int{6, 1, 4, 5}}, {3, 17, []int{3, 0, 1, 6}},
		{7, 12, []int{7, 4, 1, 0, 2}}, {7, 4, []int{7, 4, 1}}, {4, 24, []int{4}}, {7, 38, []int{7}}, {2, 3, []int{2, 0, 3}},
	} {
		checkEqual(t, "RouteToId", impl.RouteToId(sampleTree(), sampleNumbers(), c.from, c.id), c.want)
	}
	for _, from := range notNodes(sampleTree()) {
		checkNoRoute(t, sampleTree(), sampleNumbers(), from, 37)
	}
	for from := range sampleTree() {
		checkNoRoute(t, sampleTree(), sampleNumbers(), from, 39)
	}
}

func TestRoutesWithOtherNumbers(t *testing.T) {
	for _, n := range otherNumbers() {
		for id := range 64 {
			checkNotDown(t, sampleTree(), n, id)
		}
		checkEqual(t, "IsLocal with other numbers", impl.IsLocal(sampleTree(), n, 5, 7), false)
	}
	for _, tree := range badTrees() {
		for _, n := range []impl.Numbers{sampleNumbers(), {}} {
			checkNotDown(t, tree, n, 4)
			checkEqual(t, "IsLocal in an invalid tree", impl.IsLocal(tree, n, 0, 1), false)
		}
	}
}

func TestHopsOf(t *testing.T) {
	for size := range 6 {
		checkEqual(t, "HopsOf", impl.HopsOf(make([]int, size)), size-1)
	}
	checkEqual(t, "HopsOf nil", impl.HopsOf(nil), -1)
	checkEqual(t, "HopsOf numbers that are no nodes", impl.HopsOf([]int{-5, math.MaxInt, math.MinInt}), 2)
}

func TestIsLocal(t *testing.T) {
	for _, c := range []struct {
		a, b int
		want bool
	}{
		{5, 7, true}, {5, 6, true}, {5, 1, true}, {1, 5, true}, {4, 4, true}, {3, 3, true},
		{5, 3, false}, {3, 2, false}, {1, 2, false}, {2, 7, false},
		// From the root, every way is local; none leads to it.
		{0, 1, true}, {0, 7, true}, {0, 3, true}, {0, 0, false}, {1, 0, false}, {7, 0, false},
	} {
		if got := impl.IsLocal(sampleTree(), sampleNumbers(), c.a, c.b); got != c.want {
			t.Errorf("IsLocal(.., %d, %d) = %v, want %v", c.a, c.b, got, c.want)
		}
	}
	for _, k := range notNodes(sampleTree()) {
		for other := range sampleTree() {
			checkEqual(t, "IsLocal from no node", impl.IsLocal(sampleTree(), sampleNumbers(), k, other), false)
			checkEqual(t, "IsLocal to no node", impl.IsLocal(sampleTree(), sampleNumbers(), other, k), false)
		}
	}
	eachTree(func(tree []impl.Node) {
		n, _ := impl.Enumerate(tree)
		for a := range tree {
			for b := range tree {
				together := a != 0 && b != 0 && impl.PathTo(tree, a)[1] == impl.PathTo(tree, b)[1]
				checkEqual(t, "IsLocal", impl.IsLocal(tree, n, a, b), together || a == 0 && b != 0)
			}
		}
	})
}

// TestRoutePromise is promise 21: a packet for an id comes to the function that
// has it, from everywhere.
func TestRoutePromise(t *testing.T) {
	eachTree(func(tree []impl.Node) {
		n, owners := ownersOf(tree)
		for id, k := range owners {
			checkEqual(t, "DownToId", impl.DownToId(tree, n, id), impl.PathTo(tree, k))
			for from := range tree {
				route := impl.RouteToId(tree, n, from, id)
				checkEqual(t, "RouteToId", route, impl.PathBetween(tree, from, k))
				last := route[impl.HopsOf(route)]
				owner, function, ok := impl.OwnerOfId(tree, n, id)
				if !ok || last != owner || function != impl.FunctionOf(id) {
					t.Errorf("a packet for %s from %d in %+v comes to %d", impl.FormatId(id), from, tree, last)
				}
			}
		}
	})
}

func TestRouteMemory(t *testing.T) {
	spare := append(sampleTree(), impl.Node{Parent: 77})
	numbers := sampleNumbers()
	n := impl.Numbers{Bus: spareList(numbers.Bus...), Second: spareList(numbers.Second...), Last: spareList(numbers.Last...)}
	route := spareList(1, 2)
	impl.HopsOf(route)
	impl.IsLocal(spare[:8], n, 5, 7)
	overwrite(impl.DownToId(spare[:8], n, 37))
	overwrite(impl.RouteToId(spare[:8], n, 5, 37))
	checkSpare(t, "the route", route, 1, 2)
	checkSpare(t, "Bus", n.Bus, numbers.Bus...)
	checkSpare(t, "Second", n.Second, numbers.Second...)
	checkSpare(t, "Last", n.Last, numbers.Last...)
	if want := append(sampleTree(), impl.Node{Parent: 77}); !slices.Equal(spare, want) {
		t.Errorf("the tree became %+v", spare)
	}
}
