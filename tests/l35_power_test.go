package tests

import (
	"math"
	"slices"
	"testing"

	"loop.example/g00986/impl"
)

// sampleSleep is how deeply the nodes of the sample tree sleep.
func sampleSleep() []int {
	return []int{0, 1, 3, 2, 1, 2, 3, 1}
}

// badDepths are no depths for the nodes of the sample tree.
func badDepths() [][]int {
	bad := [][]int{nil, {}, make([]int, 7), make([]int, 9)}
	for k := range 8 {
		for _, depth := range []int{-1, 4, math.MinInt, math.MaxInt} {
			list := make([]int, 8)
			list[k] = depth
			bad = append(bad, list)
		}
	}
	return bad
}

// badSleeps are depths at which the nodes of the sample tree cannot sleep.
func badSleeps() [][]int {
	bad := badDepths()
	for k := 1; k < 8; k++ {
		list := sampleSleep()
		if list[sampleTree()[k].Parent] > 0 {
			list[k] = list[sampleTree()[k].Parent] - 1
			bad = append(bad, list)
		}
	}
	return append(bad, []int{1, 1, 3, 0, 1, 2, 3, 1}, []int{3, 3, 3, 3, 3, 3, 3, 2}, []int{2, 1, 3, 2, 1, 2, 3, 1})
}

// settledDepths follows the description of SettleSleep, pair by pair.
func settledDepths(tree []impl.Node, wish []int) []int {
	settled := slices.Clone(wish)
	for k := range tree {
		for below := range tree {
			if impl.IsBelow(tree, below, k) {
				settled[k] = min(settled[k], wish[below])
			}
		}
	}
	return settled
}

func randomWish(n *numbers, tree []impl.Node) []int {
	wish := make([]int, len(tree))
	for k := range wish {
		// In most of the nodes, the depth is not 0: one node that is awake wakes
		// all those above it.
		wish[k] = min(3, n.below(9))
	}
	return wish
}

// eachAsleep calls check with many valid trees and valid depths for them.
func eachAsleep(check func(tree []impl.Node, sleep []int)) {
	check(sampleTree(), sampleSleep())
	n := numbers(35)
	eachTree(func(tree []impl.Node) {
		check(tree, make([]int, len(tree)))
		check(tree, slices.Repeat([]int{3}, len(tree)))
		check(tree, settledDepths(tree, randomWish(&n, tree)))
	})
}

// sleepOk follows the description of SleepOk for depths in the range.
func sleepOk(tree []impl.Node, sleep []int) bool {
	for k := range tree {
		for below := range tree {
			if impl.IsBelow(tree, below, k) && sleep[k] > sleep[below] {
				return false
			}
		}
	}
	return true
}

func checkNotSet(t *testing.T, tree []impl.Node, sleep []int, k int, depth int) {
	t.Helper()
	got, ok := impl.SetSleep(tree, sleep, k, depth)
	checkEqual(t, "SetSleep's answer", ok, false)
	checkEqual(t, "SetSleep that is not possible", got, sleep)
}

func checkNotWoken(t *testing.T, tree []impl.Node, sleep []int, k int) {
	t.Helper()
	got, ok := impl.WakeNode(tree, sleep, k)
	checkEqual(t, "WakeNode's answer", ok, false)
	checkEqual(t, "WakeNode that is not possible", got, sleep)
}

func TestSleepOk(t *testing.T) {
	checkEqual(t, "MaxSleep", impl.MaxSleep, 3)
	eachAsleep(func(tree []impl.Node, sleep []int) {
		if !impl.SleepOk(tree, sleep) {
			t.Errorf("SleepOk(%+v, %v) = false", tree, sleep)
		}
	})
	n := numbers(135)
	asleep, not := 0, 0
	eachTree(func(tree []impl.Node) {
		for range 5 {
			wish := randomWish(&n, tree)
			checkEqual(t, "SleepOk", impl.SleepOk(tree, wish), sleepOk(tree, wish))
			if sleepOk(tree, wish) {
				asleep++
			} else {
				not++
			}
		}
	})
	if asleep < 100 || not < 100 {
		t.Errorf("%d depths are valid and %d are not", asleep, not)
	}
}

func TestInvalidSleep(t *testing.T) {
	check := func(tree []impl.Node, sleep []int) {
		checkEqual(t, "SleepOk", impl.SleepOk(tree, sleep), false)
		for k := -1; k <= len(tree); k++ {
			for depth := range 4 {
				checkNotSet(t, tree, sleep, k, depth)
			}
			checkNotWoken(t, tree, sleep, k)
			checkEqual(t, "DeepestFor", impl.DeepestFor(tree, sleep, k), -1)
		}
	}
	for _, sleep := range badSleeps() {
		check(sampleTree(), sleep)
	}
	for _, tree := range badTrees() {
		check(tree, make([]int, len(tree)))
		check(tree, make([]int, 8))
	}
}

func TestSetSleep(t *testing.T) {
	eachAsleep(func(tree []impl.Node, sleep []int) {
		for k := range tree {
			deepest := 0
			for depth := -1; depth <= 4; depth++ {
				want := slices.Clone(sleep)
				want[k] = depth
				if depth < 0 || depth > 3 || !sleepOk(tree, want) {
					checkNotSet(t, tree, sleep, k, depth)
					continue
				}
				deepest = depth
				got, ok := impl.SetSleep(tree, sleep, k, depth)
				checkEqual(t, "SetSleep's answer", ok, true)
				checkEqual(t, "SetSleep", got, want)
			}
			checkEqual(t, "DeepestFor", impl.DeepestFor(tree, sleep, k), deepest)
		}
	})
	for _, k := range notNodes(sampleTree()) {
		checkNotSet(t, sampleTree(), sampleSleep(), k, 0)
		checkEqual(t, "DeepestFor", impl.DeepestFor(sampleTree(), sampleSleep(), k), -1)
	}
	for _, depth := range []int{math.MinInt, math.MaxInt} {
		checkNotSet(t, sampleTree(), sampleSleep(), 6, depth)
	}
}

func TestDeepestFor(t *testing.T) {
	for k, want := range []int{1, 1, 3, 3, 1, 3, 3, 3} {
		checkEqual(t, "DeepestFor", impl.DeepestFor(sampleTree(), sampleSleep(), k), want)
	}
	// A bridge sleeps as deeply as what is below it, not more.
	two := []int{0, 0, 0, 0, 2, 2, 0, 3}
	checkEqual(t, "DeepestFor", impl.DeepestFor(sampleTree(), two, 4), 2)
	checkEqual(t, "DeepestFor", impl.DeepestFor(sampleTree(), make([]int, 8), 4), 0)
}

// TestTheRoot sleeps only as deeply as all others; it is awake if one of them
// is, and waking it wakes nothing else.
func TestTheRoot(t *testing.T) {
	checkEqual(t, "DeepestFor the root alone", impl.DeepestFor(chain(1), []int{0}, 0), 3)
	checkEqual(t, "DeepestFor the root", impl.DeepestFor(sampleTree(), []int{0, 2, 3, 2, 2, 2, 3, 3}, 0), 2)
	got, ok := impl.SetSleep(sampleTree(), sampleSleep(), 0, 1)
	checkEqual(t, "SetSleep's answer", ok, true)
	checkEqual(t, "SetSleep", got, []int{1, 1, 3, 2, 1, 2, 3, 1})
	checkNotSet(t, sampleTree(), sampleSleep(), 0, 2)
	woken, ok := impl.WakeNode(sampleTree(), got, 0)
	checkEqual(t, "WakeNode's answer", ok, true)
	checkEqual(t, "WakeNode", woken, sampleSleep())
	// While the root sleeps, no other node can be awake.
	for k := 1; k < 8; k++ {
		checkNotSet(t, sampleTree(), got, k, 0)
	}
	for _, k := range []int{3, 5, 6, 7} {
		wish := slices.Repeat([]int{3}, 8)
		wish[k] = 1
		settled := impl.SettleSleep(sampleTree(), wish)
		checkEqual(t, "the depth of the root", settled[0], 1)
		checkEqual(t, "the depth of the bridge without nodes below", settled[2], 3)
	}
	checkEqual(t, "SettleSleep", impl.SettleSleep(sampleTree(), []int{1, 3, 3, 3, 3, 3, 3, 3}), []int{1, 3, 3, 3, 3, 3, 3, 3})
	checkEqual(t, "SettleSleep of the root alone", impl.SettleSleep(chain(1), []int{2}), []int{2})
}

func TestWakeNode(t *testing.T) {
	eachAsleep(func(tree []impl.Node, sleep []int) {
		for k := range tree {
			want := slices.Clone(sleep)
			for i := k; i >= 0; i = tree[i].Parent {
				want[i] = 0
			}
			got, ok := impl.WakeNode(tree, sleep, k)
			checkEqual(t, "WakeNode's answer", ok, true)
			checkEqual(t, "WakeNode", got, want)
			checkEqual(t, "SleepOk", impl.SleepOk(tree, got), true)
		}
	})
	for _, k := range notNodes(sampleTree()) {
		checkNotWoken(t, sampleTree(), sampleSleep(), k)
	}
}

func TestSettleSleep(t *testing.T) {
	checkEqual(t, "SettleSleep", impl.SettleSleep(sampleTree(), []int{3, 3, 1, 2, 3, 2, 3, 3}), []int{1, 2, 1, 2, 2, 2, 3, 3})
	checkEqual(t, "SettleSleep", impl.SettleSleep(chain(5), []int{3, 2, 3, 1, 3}), []int{1, 1, 1, 1, 3})
	n := numbers(235)
	eachTree(func(tree []impl.Node) {
		for range 5 {
			wish := randomWish(&n, tree)
			checkEqual(t, "SettleSleep", impl.SettleSleep(tree, wish), settledDepths(tree, wish))
		}
	})
	for _, wish := range badDepths() {
		if got := impl.SettleSleep(sampleTree(), wish); got != nil {
			t.Errorf("SettleSleep(.., %v) = %v, want nil", wish, got)
		}
	}
	for _, tree := range badTrees() {
		if got := impl.SettleSleep(tree, make([]int, len(tree))); got != nil {
			t.Errorf("SettleSleep(%+v, ..) = %v, want nil", tree, got)
		}
	}
}

// TestPowerPromise is promise 35: no bridge sleeps more deeply than a node
// below it.
func TestPowerPromise(t *testing.T) {
	n := numbers(335)
	changed := 0
	eachTree(func(tree []impl.Node) {
		sleep := impl.SettleSleep(tree, randomWish(&n, tree))
		for range 30 {
			next, ok := impl.SetSleep(tree, sleep, n.below(len(tree)), n.below(6)-1)
			if n.below(8) == 0 {
				next, ok = impl.WakeNode(tree, sleep, n.below(len(tree)))
			}
			if ok {
				changed++
			} else {
				checkEqual(t, "what is not changed", next, sleep)
			}
			sleep = next
			if !sleepOk(tree, sleep) {
				t.Errorf("a bridge of %+v sleeps too deeply: %v", tree, sleep)
			}
		}
	})
	if changed < 1000 {
		t.Errorf("only %d depths were set", changed)
	}
}

func TestPowerMemory(t *testing.T) {
	spare := append(sampleTree(), impl.Node{Parent: 77})
	for _, depths := range [][]int{sampleSleep(), {3, 3, 1, 2, 3, 2, 3, 3}} {
		// The second depths are not those of nodes that sleep.
		sleep := spareList(depths...)
		set, _ := impl.SetSleep(spare[:8], sleep, 6, 2)
		notSet, _ := impl.SetSleep(spare[:8], sleep, 1, 3)
		notNode, _ := impl.SetSleep(spare[:8], sleep, 8, 3)
		woken, _ := impl.WakeNode(spare[:8], sleep, 5)
		notWoken, _ := impl.WakeNode(spare[:8], sleep, 8)
		for _, list := range [][]int{set, notSet, notNode, woken, notWoken, impl.SettleSleep(spare[:8], sleep)} {
			overwrite(list)
		}
		impl.DeepestFor(spare[:8], sleep, 6)
		impl.SleepOk(spare[:8], sleep)
		checkSpare(t, "the depths", sleep, depths...)
		checkEqual(t, "the tree with what is behind it", spare, append(sampleTree(), impl.Node{Parent: 77}))
	}
}
