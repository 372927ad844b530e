package tests

import (
	"math"
	"slices"
	"testing"

	"loop.example/g00986/impl"
)

// sampleTree is a root with the bridges 1 and 2 and the device 3 below it;
// bridge 1 has the device 6 and the bridge 4, which has the devices 7 and 5,
// and bridge 2 has nothing below it.
func sampleTree() []impl.Node {
	return []impl.Node{
		{Parent: -1},
		{Parent: 0, Device: 1},
		{Parent: 0, Device: 3},
		{Parent: 0, Device: 0, Functions: 4},
		{Parent: 1, Device: 2},
		{Parent: 4, Device: 3, Functions: 1},
		{Parent: 1, Device: 0, Functions: 2},
		{Parent: 4, Device: 1, Functions: 3},
	}
}

// chain is a tree in which each bridge has the next node below it.
func chain(size int) []impl.Node {
	t := make([]impl.Node, size)
	for k := range t {
		t[k] = impl.Node{Parent: k - 1, Device: k % 4}
	}
	t[0].Device = 0
	return t
}

// randomTree is a valid tree with at most 12 nodes.
func randomTree(n *numbers) []impl.Node {
	t := []impl.Node{{Parent: -1}}
	size := 1 + n.below(12)
	for range 100 {
		parent, device := n.below(len(t)), n.below(4)
		taken := slices.ContainsFunc(t, func(n impl.Node) bool { return n.Parent == parent && n.Device == device })
		if len(t) < size && t[parent].Functions == 0 && !taken {
			t = append(t, impl.Node{Parent: parent, Device: device, Functions: max(0, n.below(9)-4)})
		}
	}
	return t
}

// eachTree calls check with many valid trees.
func eachTree(check func(t []impl.Node)) {
	check(sampleTree())
	for size := 1; size <= 12; size++ {
		check(chain(size))
	}
	n := numbers(19)
	for range 200 {
		check(randomTree(&n))
	}
}

// badTrees are trees that are not valid, each for one reason.
func badTrees() map[string][]impl.Node {
	bad := map[string][]impl.Node{"no node": nil, "thirteen nodes": chain(13), "no root": sampleTree()[1:]}
	change := func(name string, k int, n impl.Node) {
		t := sampleTree()
		t[k] = n
		bad[name] = t
	}
	change("root with parent 0", 0, impl.Node{Parent: 0})
	change("root with parent -2", 0, impl.Node{Parent: -2})
	change("root with a device", 0, impl.Node{Parent: -1, Device: 1})
	change("root with functions", 0, impl.Node{Parent: -1, Functions: 1})
	change("second root", 2, impl.Node{Parent: -1})
	change("parent is the node", 2, impl.Node{Parent: 2})
	change("parent is later", 2, impl.Node{Parent: 4})
	change("parent is a device", 5, impl.Node{Parent: 3})
	change("parent is no node", 5, impl.Node{Parent: 8})
	change("parent past all", 5, impl.Node{Parent: math.MaxInt})
	change("parent below all", 5, impl.Node{Parent: math.MinInt})
	change("same device as before", 2, impl.Node{Parent: 0, Device: 1})
	change("same device as later", 1, impl.Node{Parent: 0, Device: 3})
	change("same device, far away", 6, impl.Node{Parent: 1, Device: 2, Functions: 1})
	for _, n := range []int{-1, 4, math.MinInt, math.MaxInt} {
		change("last device "+impl.FormatInt(n), 7, impl.Node{Parent: 4, Device: n})
		change("first device "+impl.FormatInt(n), 1, impl.Node{Parent: 0, Device: n})
	}
	for _, n := range []int{-1, 5, math.MinInt, math.MaxInt} {
		change("last functions "+impl.FormatInt(n), 7, impl.Node{Parent: 4, Device: 1, Functions: n})
		bad["only functions "+impl.FormatInt(n)] = []impl.Node{{Parent: -1}, {Functions: n}}
	}
	return bad
}

func notNodes(t []impl.Node) []int {
	return []int{-1, len(t), len(t) + 1, math.MinInt, math.MaxInt}
}

func TestTreeOk(t *testing.T) {
	checkEqual(t, "MaxNodes", impl.MaxNodes, 12)
	eachTree(func(tree []impl.Node) {
		if !impl.TreeOk(tree) {
			t.Errorf("TreeOk(%+v) = false", tree)
		}
	})
	for name, tree := range badTrees() {
		if impl.TreeOk(tree) {
			t.Errorf("TreeOk: %s: true", name)
		}
	}
}

func TestNodesOfInvalidTrees(t *testing.T) {
	for name, tree := range badTrees() {
		for k := -1; k <= len(tree); k++ {
			if impl.ChildrenOf(tree, k) != nil || impl.PathTo(tree, k) != nil || impl.IsBelow(tree, k, k) {
				t.Errorf("%s: node %d has children or a path", name, k)
			}
			if impl.PathBetween(tree, k, 0) != nil || impl.PathBetween(tree, 0, k) != nil {
				t.Errorf("%s: node %d has a path to the root", name, k)
			}
		}
	}
}

func TestIndicesOfNoNode(t *testing.T) {
	tree := sampleTree()
	for _, k := range notNodes(tree) {
		if impl.ChildrenOf(tree, k) != nil || impl.PathTo(tree, k) != nil {
			t.Errorf("%d has children or a path", k)
		}
		if impl.PathBetween(tree, k, 0) != nil || impl.PathBetween(tree, 0, k) != nil || impl.PathBetween(tree, k, k) != nil {
			t.Errorf("%d has a path to the root", k)
		}
		if impl.IsBelow(tree, k, 0) || impl.IsBelow(tree, 0, k) || impl.IsBelow(tree, k, k) {
			t.Errorf("%d is below the root, or the reverse", k)
		}
	}
}

func TestChildrenOf(t *testing.T) {
	for k, want := range [][]int{{3, 1, 2}, {6, 4}, nil, nil, {7, 5}, nil, nil, nil} {
		checkEqual(t, "ChildrenOf", impl.ChildrenOf(sampleTree(), k), want)
	}
	eachTree(func(tree []impl.Node) {
		for k := range tree {
			var want []int
			for device := range 4 {
				for i, n := range tree {
					if n.Parent == k && n.Device == device {
						want = append(want, i)
					}
				}
			}
			checkEqual(t, "ChildrenOf", impl.ChildrenOf(tree, k), want)
		}
	})
}

func TestPathTo(t *testing.T) {
	for k, want := range [][]int{{0}, {0, 1}, {0, 2}, {0, 3}, {0, 1, 4}, {0, 1, 4, 5}, {0, 1, 6}, {0, 1, 4, 7}} {
		checkEqual(t, "PathTo", impl.PathTo(sampleTree(), k), want)
	}
	checkEqual(t, "PathTo the end of a chain", impl.PathTo(chain(12), 11), []int{0, 1, 2, 3, 4, 5, 6, 7, 8, 9, 10, 11})
}

func TestPathBetween(t *testing.T) {
	for _, c := range []struct {
		a, b int
		want []int
	}{
		{5, 7, []int{5, 4, 7}}, {5, 6, []int{5, 4, 1, 6}}, {6, 7, []int{6, 1, 4, 7}}, {5, 3, []int{5, 4, 1, 0, 3}},
		{1, 5, []int{1, 4, 5}}, {5, 1, []int{5, 4, 1}}, {0, 7, []int{0, 1, 4, 7}}, {7, 0, []int{7, 4, 1, 0}}, {2, 3, []int{2, 0, 3}},
	} {
		checkEqual(t, "PathBetween", impl.PathBetween(sampleTree(), c.a, c.b), c.want)
	}
	eachTree(func(tree []impl.Node) {
		for k := range tree {
			checkEqual(t, "the way from a node to itself", impl.PathBetween(tree, k, k), []int{k})
			checkEqual(t, "the way from the root", impl.PathBetween(tree, 0, k), impl.PathTo(tree, k))
		}
	})
}

func TestIsBelow(t *testing.T) {
	eachTree(func(tree []impl.Node) {
		for k := range tree {
			for top := -1; top <= len(tree); top++ {
				want := false
				for i := k; i >= 0; i = tree[i].Parent {
					want = want || i == top
				}
				checkEqual(t, "IsBelow", impl.IsBelow(tree, k, top), want)
			}
		}
	})
}

// TestTreePromise is promise 19: ways go from parent to child or from child to
// parent. First they go up, then down, and they visit no node twice.
func TestTreePromise(t *testing.T) {
	eachTree(func(tree []impl.Node) {
		for a := range tree {
			for b := range tree {
				way := impl.PathBetween(tree, a, b)
				if len(way) == 0 || way[0] != a || way[len(way)-1] != b {
					t.Fatalf("the way from %d to %d in %+v is %v", a, b, tree, way)
				}
				down := false
				for i := 1; i < len(way); i++ {
					from, to := way[i-1], way[i]
					up := tree[from].Parent == to
					if !up && tree[to].Parent != from || up && down || slices.Contains(way[:i], to) {
						t.Errorf("the way from %d to %d in %+v is %v", a, b, tree, way)
					}
					down = !up
				}
				back := impl.PathBetween(tree, b, a)
				slices.Reverse(back)
				checkEqual(t, "the way back, reversed", back, way)
			}
		}
	})
}

func TestTreeMemory(t *testing.T) {
	spare := append(sampleTree(), impl.Node{Parent: 77})
	tree := spare[:8]
	lists := [][]int{impl.ChildrenOf(tree, 0), impl.PathTo(tree, 5), impl.PathBetween(tree, 5, 7), impl.PathBetween(tree, 5, 5)}
	for _, list := range lists {
		overwrite(list)
	}
	checkEqual(t, "the tree with what is behind it", spare, append(sampleTree(), impl.Node{Parent: 77}))
	checkEqual(t, "ChildrenOf once more", impl.ChildrenOf(tree, 0), []int{3, 1, 2})
}
