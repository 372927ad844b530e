package tests

import (
	"math"
	"slices"
	"testing"

	"loop.example/g00986/impl"
)

func checkNodeNotAdded(t *testing.T, tree []impl.Node, n impl.Node) {
	t.Helper()
	got, ok := impl.AddNode(tree, n.Parent, n.Device, n.Functions)
	checkEqual(t, "AddNode's answer", ok, false)
	checkEqual(t, "AddNode that is not possible", got, tree)
}

func checkNodeNotRemoved(t *testing.T, tree []impl.Node, k int) {
	t.Helper()
	got, indices, ok := impl.RemoveNode(tree, k)
	checkEqual(t, "RemoveNode's answer", ok, false)
	checkEqual(t, "RemoveNode that is not possible", got, tree)
	if indices != nil {
		t.Errorf("RemoveNode(%+v, %d) gives the indices %v, want nil", tree, k, indices)
	}
}

func checkNodeRemoved(t *testing.T, tree []impl.Node, k int, want []impl.Node, indices []int) {
	t.Helper()
	got, list, ok := impl.RemoveNode(tree, k)
	checkEqual(t, "RemoveNode's answer", ok, true)
	checkEqual(t, "RemoveNode", got, want)
	checkEqual(t, "RemoveNode's indices", list, indices)
	checkEqual(t, "TreeOk", impl.TreeOk(got), true)
}

// devicesBelow are the devices of the nodes directly below node k.
func devicesBelow(tree []impl.Node, k int) []int {
	var devices []int
	for _, n := range tree {
		if n.Parent == k {
			devices = append(devices, n.Device)
		}
	}
	return devices
}

func TestAddNode(t *testing.T) {
	eachTree(func(tree []impl.Node) {
		for parent := -1; parent <= len(tree); parent++ {
			for device := -1; device <= 4; device++ {
				for _, functions := range []int{-1, 0, 1, 4, 5} {
					n := impl.Node{Parent: parent, Device: device, Functions: functions}
					fits := len(tree) < 12 && parent >= 0 && parent < len(tree) && tree[parent].Functions == 0 &&
						device >= 0 && device <= 3 && functions >= 0 && functions <= 4 && !slices.Contains(devicesBelow(tree, parent), device)
					if !fits {
						checkNodeNotAdded(t, tree, n)
						continue
					}
					got, ok := impl.AddNode(tree, parent, device, functions)
					checkEqual(t, "AddNode's answer", ok, true)
					checkEqual(t, "AddNode", got, append(slices.Clone(tree), n))
					checkEqual(t, "TreeOk", impl.TreeOk(got), true)
				}
			}
		}
	})
	for _, n := range []int{math.MinInt, math.MaxInt} {
		checkNodeNotAdded(t, sampleTree(), impl.Node{Parent: n, Device: 1, Functions: 1})
		checkNodeNotAdded(t, sampleTree(), impl.Node{Parent: 2, Device: n, Functions: 1})
		checkNodeNotAdded(t, sampleTree(), impl.Node{Parent: 2, Device: 1, Functions: n})
	}
}

// TestTwelveNodes leave no room for a further one, and thirteen are no tree.
func TestTwelveNodes(t *testing.T) {
	full, ok := impl.AddNode(chain(11), 5, 3, 1)
	checkEqual(t, "AddNode's answer", ok, true)
	checkEqual(t, "the number of nodes", len(full), 12)
	checkNodeNotAdded(t, full, impl.Node{Parent: 4, Device: 3, Functions: 1})
	less, _, _ := impl.RemoveNode(full, 11)
	checkEqual(t, "RemoveNode", less, chain(11))
	checkNodeNotAdded(t, chain(13), impl.Node{Parent: 5, Device: 3, Functions: 1})
}

func TestPlugOfInvalidTrees(t *testing.T) {
	for _, tree := range badTrees() {
		for k := -1; k <= len(tree); k++ {
			checkNodeNotAdded(t, tree, impl.Node{Parent: k, Device: 2, Functions: 1})
			checkNodeNotRemoved(t, tree, k)
			if slots := impl.SlotsOf(tree, k); slots != nil {
				t.Errorf("SlotsOf(%+v, %d) = %v, want nil", tree, k, slots)
			}
		}
	}
	// Adding a node does not make a tree valid.
	checkNodeNotAdded(t, nil, impl.Node{Parent: -1})
}

func TestRemoveNode(t *testing.T) {
	tree := sampleTree()
	checkNodeRemoved(t, tree, 1, []impl.Node{tree[0], tree[2], tree[3]}, []int{0, -1, 1, 2, -1, -1, -1, -1})
	four, five := tree[5], tree[7]
	four.Parent, five.Parent = 3, 3
	checkNodeRemoved(t, tree, 3, []impl.Node{tree[0], tree[1], tree[2], tree[4], four, tree[6], five}, []int{0, 1, 2, -1, 3, 4, 5, 6})
	checkNodeRemoved(t, tree, 4, []impl.Node{tree[0], tree[1], tree[2], tree[3], tree[6]}, []int{0, 1, 2, 3, -1, -1, 4, -1})
	checkNodeRemoved(t, tree, 6, slices.Delete(sampleTree(), 6, 7), []int{0, 1, 2, 3, 4, 5, -1, 6})
	checkNodeRemoved(t, chain(2), 1, chain(1), []int{0, -1})
	checkNodeRemoved(t, chain(12), 5, chain(5), []int{0, 1, 2, 3, 4, -1, -1, -1, -1, -1, -1, -1})
	for _, k := range append(notNodes(tree), 0) {
		checkNodeNotRemoved(t, tree, k)
	}
	checkNodeNotRemoved(t, chain(1), 0)
}

// TestTheLastNode can be removed and added again.
func TestTheLastNode(t *testing.T) {
	eachTree(func(tree []impl.Node) {
		last := len(tree) - 1
		if last == 0 {
			checkNodeNotRemoved(t, tree, 0)
			return
		}
		indices := make([]int, len(tree))
		for k := range indices {
			indices[k] = k
		}
		indices[last] = -1
		checkNodeRemoved(t, tree, last, tree[:last], indices)
		n := tree[last]
		again, ok := impl.AddNode(tree[:last], n.Parent, n.Device, n.Functions)
		checkEqual(t, "AddNode's answer", ok, true)
		checkEqual(t, "SameTree", impl.SameTree(again, tree), true)
	})
}

func TestSlotsOf(t *testing.T) {
	for k, want := range [][]int{{2}, {1, 3}, {0, 1, 2, 3}, nil, {0, 2}, nil, nil, nil} {
		checkEqual(t, "SlotsOf", impl.SlotsOf(sampleTree(), k), want)
	}
	for _, k := range append(notNodes(sampleTree()), 3, 5, 6, 7) {
		if slots := impl.SlotsOf(sampleTree(), k); slots != nil {
			t.Errorf("SlotsOf(.., %d) = %v, want nil", k, slots)
		}
	}
	eachTree(func(tree []impl.Node) {
		for k, n := range tree {
			var want []int
			for device := range 4 {
				if n.Functions == 0 && !slices.Contains(devicesBelow(tree, k), device) {
					want = append(want, device)
				}
			}
			checkEqual(t, "SlotsOf", impl.SlotsOf(tree, k), want)
			// A node fits just into the slots.
			for device := range 4 {
				_, ok := impl.AddNode(tree, k, device, 1)
				checkEqual(t, "AddNode's answer", ok, len(tree) < 12 && slices.Contains(want, device))
			}
		}
	})
}

func TestCountBridges(t *testing.T) {
	checkEqual(t, "CountBridges", impl.CountBridges(sampleTree()), 4)
	for size := 1; size <= 13; size++ {
		checkEqual(t, "CountBridges", impl.CountBridges(chain(size)), size)
	}
	// The tree need not be valid.
	odd := []impl.Node{{Functions: 1}, {Parent: 7}, {Functions: -1}, {Device: 99}}
	checkEqual(t, "CountBridges", impl.CountBridges(odd), 2)
	checkEqual(t, "CountBridges", impl.CountBridges(nil), 0)
}

func TestSameTree(t *testing.T) {
	for _, tree := range append([][]impl.Node{nil, sampleTree(), chain(13)}, badTrees()["no root"]) {
		checkEqual(t, "SameTree", impl.SameTree(tree, slices.Clone(tree)), true)
		checkEqual(t, "SameTree", impl.SameTree(tree, append(slices.Clone(tree), impl.Node{})), false)
		checkEqual(t, "SameTree", impl.SameTree(append(slices.Clone(tree), impl.Node{}), tree), false)
		for k := range tree {
			for field := range 3 {
				other := slices.Clone(tree)
				*[]*int{&other[k].Parent, &other[k].Device, &other[k].Functions}[field]++
				checkEqual(t, "SameTree", impl.SameTree(tree, other), false)
			}
		}
	}
	checkEqual(t, "SameTree", impl.SameTree(nil, []impl.Node{}), true)
}

// TestPlugPromise is promise 34: removing a node removes what is below it and
// no other node. What is left keeps its order, its fields and what is above it.
func TestPlugPromise(t *testing.T) {
	eachTree(func(tree []impl.Node) {
		for k := 1; k < len(tree); k++ {
			left, indices, ok := impl.RemoveNode(tree, k)
			checkEqual(t, "RemoveNode's answer", ok, true)
			checkEqual(t, "TreeOk", impl.TreeOk(left), true)
			checkEqual(t, "the number of indices", len(indices), len(tree))
			next := 0
			for old, n := range tree {
				if impl.IsBelow(tree, old, k) {
					checkEqual(t, "the index of a node that is removed", indices[old], -1)
					continue
				}
				checkEqual(t, "the index of a node that is left", indices[old], next)
				now := left[next]
				checkEqual(t, "the device and the functions", []int{now.Device, now.Functions}, []int{n.Device, n.Functions})
				if old > 0 {
					checkEqual(t, "the parent", now.Parent, indices[n.Parent])
				}
				next++
			}
			checkEqual(t, "the number of nodes that are left", len(left), next)
		}
	})
}

func TestPlugMemory(t *testing.T) {
	for _, first := range []int{-1, 5} {
		// The second time, the tree is not valid.
		want := append(sampleTree(), impl.Node{Parent: 77}, impl.Node{Parent: 78})
		want[0].Parent = first
		spare := slices.Clone(want)
		tree := spare[:8]
		added, _ := impl.AddNode(tree, 2, 1, 1)
		notAdded, _ := impl.AddNode(tree, 3, 1, 1)
		removed, indices, _ := impl.RemoveNode(tree, 3)
		notRemoved, _, _ := impl.RemoveNode(tree, 8)
		for _, result := range [][]impl.Node{added, notAdded, removed, notRemoved} {
			result = result[:cap(result)]
			for k := range result {
				result[k] = impl.Node{Parent: -99}
			}
		}
		overwrite(indices)
		overwrite(impl.SlotsOf(tree, 1))
		impl.CountBridges(tree)
		impl.SameTree(tree, tree[:7])
		checkEqual(t, "the tree with what is behind it", spare, want)
	}
}
