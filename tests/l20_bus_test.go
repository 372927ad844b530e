package tests

import (
	"math"
	"slices"
	"testing"

	"loop.example/g00986/impl"
)

func sampleNumbers() impl.Numbers {
	return impl.Numbers{
		Bus:    []int{-1, 0, 0, 0, 1, 2, 1, 2},
		Second: []int{0, 1, 3, -1, 2, -1, -1, -1},
		Last:   []int{3, 2, 3, -1, 2, -1, -1, -1},
	}
}

// otherNumbers are numbers that are not those of the sample tree.
func otherNumbers() []impl.Numbers {
	var list []impl.Numbers
	for k := range sampleTree() {
		for which := range 3 {
			n := sampleNumbers()
			[][]int{n.Bus, n.Second, n.Last}[which][k]++
			list = append(list, n)
		}
	}
	for which := range 3 {
		shorter, longer, missing := sampleNumbers(), sampleNumbers(), sampleNumbers()
		for i, n := range []*impl.Numbers{&shorter, &longer, &missing} {
			field := []*[]int{&n.Bus, &n.Second, &n.Last}[which]
			*field = [][]int{(*field)[:7], append(*field, -1), nil}[i]
		}
		list = append(list, shorter, longer, missing)
	}
	return append(list, impl.Numbers{})
}

// devicesTo are the devices on the way to a node: the trees are gone through in
// the order of these lists.
func devicesTo(t []impl.Node, k int) []int {
	var devices []int
	for _, i := range impl.PathTo(t, k)[1:] {
		devices = append(devices, t[i].Device)
	}
	return devices
}

// numbersOf follows the description of Enumerate without going through the tree.
func numbersOf(t []impl.Node) impl.Numbers {
	var bridges []int
	for k, n := range t {
		if n.Functions == 0 {
			bridges = append(bridges, k)
		}
	}
	slices.SortFunc(bridges, func(a, b int) int { return slices.Compare(devicesTo(t, a), devicesTo(t, b)) })
	var numbers impl.Numbers
	for k, n := range t {
		second, last, bus := slices.Index(bridges, k), -1, -1
		for i, bridge := range bridges {
			if impl.IsBelow(t, bridge, k) {
				last = max(last, i)
			}
			if bridge == n.Parent {
				bus = i
			}
		}
		numbers.Bus = append(numbers.Bus, bus)
		numbers.Second = append(numbers.Second, second)
		numbers.Last = append(numbers.Last, last)
	}
	return numbers
}

func checkNoOwner(t *testing.T, tree []impl.Node, n impl.Numbers, id int) {
	t.Helper()
	k, function, ok := impl.OwnerOfId(tree, n, id)
	if k != 0 || function != 0 || ok {
		t.Errorf("OwnerOfId(.., %d) = %d, %d, %v, want 0, 0, false", id, k, function, ok)
	}
}

func TestEnumerate(t *testing.T) {
	got, ok := impl.Enumerate(sampleTree())
	checkEqual(t, "Enumerate's answer", ok, true)
	checkEqual(t, "Enumerate", got, sampleNumbers())
	eachTree(func(tree []impl.Node) {
		got, ok := impl.Enumerate(tree)
		checkEqual(t, "Enumerate's answer", ok, true)
		checkEqual(t, "Enumerate", got, numbersOf(tree))
	})
	for name, tree := range badTrees() {
		got, ok := impl.Enumerate(tree)
		checkEqual(t, "Enumerate's answer: "+name, ok, false)
		checkEqual(t, "Enumerate: "+name, got, impl.Numbers{})
	}
}

// TestBridgesWithoutNodesBelow have one bus for themselves.
func TestBridgesWithoutNodesBelow(t *testing.T) {
	// The bridges are visited in the order of their devices, not of their indices.
	tree := []impl.Node{{Parent: -1}, {Parent: 0, Device: 3}, {Parent: 0, Device: 1}, {Parent: 0, Device: 2, Functions: 1}, {Parent: 0}}
	got, ok := impl.Enumerate(tree)
	checkEqual(t, "Enumerate's answer", ok, true)
	checkEqual(t, "Enumerate", got, impl.Numbers{
		Bus: []int{-1, 0, 0, 0, 0}, Second: []int{0, 3, 2, -1, 1}, Last: []int{3, 3, 2, -1, 1},
	})
	for k, second := range map[int]int{1: 3, 2: 2, 4: 1} {
		for bus := -1; bus <= 5; bus++ {
			checkEqual(t, "IsUnder", impl.IsUnder(got, k, bus), bus == second)
		}
		checkEqual(t, "NodeId of a bridge", impl.NodeId(tree, got, k, 0), 4*tree[k].Device)
	}
	alone, ok := impl.Enumerate([]impl.Node{{Parent: -1}})
	checkEqual(t, "Enumerate's answer for the root alone", ok, true)
	checkEqual(t, "Enumerate of the root alone", alone, impl.Numbers{Bus: []int{-1}, Second: []int{0}, Last: []int{0}})
}

func TestNodeId(t *testing.T) {
	n := sampleNumbers()
	for k, ids := range [][]int{nil, {4}, {12}, {0, 1, 2, 3}, {24}, {44}, {16, 17}, {36, 37, 38}} {
		for function, id := range ids {
			checkEqual(t, "NodeId", impl.NodeId(sampleTree(), n, k, function), id)
		}
		for _, function := range []int{len(ids), len(ids) + 1, -1, 4, math.MinInt, math.MaxInt} {
			checkEqual(t, "NodeId of no function", impl.NodeId(sampleTree(), n, k, function), -1)
		}
	}
	for _, k := range notNodes(sampleTree()) {
		checkEqual(t, "NodeId of no node", impl.NodeId(sampleTree(), n, k, 0), -1)
	}
}

func TestOwnerOfId(t *testing.T) {
	eachTree(func(tree []impl.Node) {
		n, _ := impl.Enumerate(tree)
		type owner struct{ k, function int }
		owners := map[int]owner{}
		for k := range tree {
			for function := range 5 {
				if id := impl.NodeId(tree, n, k, function); id >= 0 {
					owners[id] = owner{k, function}
				}
			}
		}
		for id := -1; id <= 256; id++ {
			want, is := owners[id]
			k, function, ok := impl.OwnerOfId(tree, n, id)
			if k != want.k || function != want.function || ok != is {
				t.Errorf("OwnerOfId(%+v, .., %d) = %d, %d, %v, want %+v, %v", tree, id, k, function, ok, want, is)
			}
		}
	})
	for _, id := range []int{-1, -16, 256, 272, math.MinInt, math.MaxInt} {
		checkNoOwner(t, sampleTree(), sampleNumbers(), id)
	}
}

func TestNumbersOfAnotherTree(t *testing.T) {
	for _, n := range otherNumbers() {
		for k := range sampleTree() {
			checkEqual(t, "NodeId with other numbers", impl.NodeId(sampleTree(), n, k, 0), -1)
		}
		for id := range 64 {
			checkNoOwner(t, sampleTree(), n, id)
		}
	}
	for _, tree := range badTrees() {
		for _, n := range []impl.Numbers{sampleNumbers(), {}} {
			checkEqual(t, "NodeId in an invalid tree", impl.NodeId(tree, n, 1, 0), -1)
			checkNoOwner(t, tree, n, 4)
		}
	}
}

func TestIsUnder(t *testing.T) {
	n := sampleNumbers()
	for k := -1; k <= 8; k++ {
		for bus := -2; bus <= 16; bus++ {
			want := k >= 0 && k < 8 && n.Second[k] >= 0 && n.Second[k] <= bus && bus <= n.Last[k]
			if got := impl.IsUnder(n, k, bus); got != want {
				t.Errorf("IsUnder(.., %d, %d) = %v", k, bus, got)
			}
		}
	}
	// The numbers need not be those of a tree, and Bus does not matter.
	odd := impl.Numbers{Second: []int{5, -3, 0, 7}, Last: []int{9, 9, math.MaxInt}}
	for _, c := range []struct {
		k, bus int
		want   bool
	}{
		{0, 4, false}, {0, 5, true}, {0, 9, true}, {0, 10, false}, {1, 0, false}, {1, -3, false}, {1, -1, false},
		{2, 0, true}, {2, math.MaxInt, true}, {2, -1, false}, {3, 7, false}, {math.MaxInt, 5, false}, {math.MinInt, 5, false},
	} {
		checkEqual(t, "IsUnder", impl.IsUnder(odd, c.k, c.bus), c.want)
	}
	checkEqual(t, "IsUnder without Second", impl.IsUnder(impl.Numbers{Bus: []int{0}, Last: []int{3}}, 0, 0), false)
	checkEqual(t, "IsUnder of nothing", impl.IsUnder(impl.Numbers{}, 0, 0), false)
}

// TestBusPromise is promise 20: the buses of a bridge lie within those of the
// bridge above it. Those of two bridges beside each other do not overlap.
func TestBusPromise(t *testing.T) {
	eachTree(func(tree []impl.Node) {
		n, _ := impl.Enumerate(tree)
		for k := 1; k < len(tree); k++ {
			above := tree[k].Parent
			checkEqual(t, "the bus of a node", n.Bus[k], n.Second[above])
			if tree[k].Functions > 0 {
				continue
			}
			for bus := n.Second[k]; bus <= n.Last[k]; bus++ {
				if !impl.IsUnder(n, k, bus) || !impl.IsUnder(n, above, bus) || bus == n.Second[above] {
					t.Errorf("bus %d of bridge %d in %+v: %+v", bus, k, tree, n)
				}
				for _, beside := range impl.ChildrenOf(tree, above) {
					if beside != k && impl.IsUnder(n, beside, bus) {
						t.Errorf("bus %d is below the bridges %d and %d in %+v: %+v", bus, k, beside, tree, n)
					}
				}
			}
		}
	})
}

func TestBusMemory(t *testing.T) {
	spare := append(sampleTree(), impl.Node{Parent: 77})
	n, _ := impl.Enumerate(spare[:8])
	checkApart(t, "a list of the numbers", [][]int{n.Bus, n.Second, n.Last})
	checkEqual(t, "the tree with what is behind it", spare, append(sampleTree(), impl.Node{Parent: 77}))

	numbers := sampleNumbers()
	given := impl.Numbers{Bus: spareList(numbers.Bus...), Second: spareList(numbers.Second...), Last: spareList(numbers.Last...)}
	impl.NodeId(sampleTree(), given, 5, 0)
	impl.OwnerOfId(sampleTree(), given, 44)
	checkSpare(t, "Bus", given.Bus, numbers.Bus...)
	checkSpare(t, "Second", given.Second, numbers.Second...)
	checkSpare(t, "Last", given.Last, numbers.Last...)
}
