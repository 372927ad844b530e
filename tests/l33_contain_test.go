package tests

import (
	"math"
	"slices"
	"testing"

	"loop.example/g00986/impl"
)

// guardWithout is the guard for so many nodes in which these nodes are cut.
func guardWithout(size int, cut ...int) impl.Guard {
	g := impl.Guard{Open: slices.Repeat([]bool{true}, size)}
	for _, k := range cut {
		g.Open[k] = false
	}
	return g
}

// randomGuard is a valid guard for a tree.
func randomGuard(n *numbers, tree []impl.Node) impl.Guard {
	g := guardWithout(len(tree))
	for k := 1; k < len(tree); k++ {
		g.Open[k] = n.below(4) > 0
	}
	return g
}

// badGuards are guards that are not valid for the sample tree.
func badGuards() []impl.Guard {
	return []impl.Guard{
		{}, {Open: []bool{}}, guardWithout(7), guardWithout(9), guardWithout(8, 0), guardWithout(8, 0, 1, 2, 3, 4, 5, 6, 7),
	}
}

// eachGuarded calls check with many valid trees and guards, and with what is
// not valid.
func eachGuarded(check func(tree []impl.Node, g impl.Guard)) {
	n := numbers(33)
	eachTree(func(tree []impl.Node) {
		check(tree, guardWithout(len(tree)))
		for range 3 {
			check(tree, randomGuard(&n, tree))
		}
	})
}

func eachBadGuard(check func(tree []impl.Node, g impl.Guard)) {
	for _, g := range badGuards() {
		check(sampleTree(), g)
	}
	for _, tree := range badTrees() {
		check(tree, guardWithout(len(tree)))
		check(tree, guardWithout(8))
	}
}

// canReach follows the description of CanReach for nodes of a valid tree: up
// and down, from each node to the one above it.
func canReach(tree []impl.Node, g impl.Guard, a int, b int) bool {
	for a != b {
		lower := &a
		if len(impl.PathTo(tree, b)) > len(impl.PathTo(tree, a)) {
			lower = &b
		}
		if !g.Open[*lower] {
			return false
		}
		*lower = tree[*lower].Parent
	}
	return true
}

// checkGuarded checks what CutNode (open is false) or OpenNode makes of node k.
func checkGuarded(t *testing.T, tree []impl.Node, g impl.Guard, k int, open bool, want bool) impl.Guard {
	t.Helper()
	change := impl.CutNode
	if open {
		change = impl.OpenNode
	}
	expected := g
	if want {
		expected.Open = flagged(g.Open, k, open)
	}
	got, ok := change(tree, g, k)
	checkEqual(t, "the answer of CutNode or OpenNode", ok, want)
	checkEqual(t, "CutNode or OpenNode", got, expected)
	return got
}

func checkNoAnswerFor(t *testing.T, tree []impl.Node, g impl.Guard, p impl.Packet, a int, b int) {
	t.Helper()
	answer, ok := impl.AnswerFor(tree, g, p, a, b)
	checkEqual(t, "AnswerFor's answer", ok, false)
	checkEqual(t, "AnswerFor", answer, impl.Packet{})
}

func TestGuardOk(t *testing.T) {
	eachGuarded(func(tree []impl.Node, g impl.Guard) {
		if !impl.GuardOk(tree, g) {
			t.Errorf("GuardOk(%+v, %+v) = false", tree, g)
		}
	})
	checkEqual(t, "GuardOk", impl.GuardOk(sampleTree(), guardWithout(8, 1, 2, 3, 4, 5, 6, 7)), true)
	checkEqual(t, "GuardOk of the root alone", impl.GuardOk(chain(1), guardWithout(1)), true)
}

func TestInvalidGuards(t *testing.T) {
	eachBadGuard(func(tree []impl.Node, g impl.Guard) {
		checkEqual(t, "GuardOk", impl.GuardOk(tree, g), false)
		for k := -1; k <= len(tree); k++ {
			checkGuarded(t, tree, g, k, false, false)
			checkGuarded(t, tree, g, k, true, false)
			checkEqual(t, "CanReach", impl.CanReach(tree, g, k, k), false)
			checkEqual(t, "CanReach", impl.CanReach(tree, g, 0, k), false)
			checkNoAnswerFor(t, tree, g, fullPacket(pkRead), 0, k)
		}
		if list := impl.CutOff(tree, g); list != nil {
			t.Errorf("CutOff(%+v, %+v) = %v, want nil", tree, g, list)
		}
	})
}

func TestCutNode(t *testing.T) {
	eachGuarded(func(tree []impl.Node, g impl.Guard) {
		for k := range tree {
			cut := checkGuarded(t, tree, g, k, false, k > 0 && g.Open[k])
			opened := checkGuarded(t, tree, g, k, true, k > 0 && !g.Open[k])
			checkEqual(t, "GuardOk", impl.GuardOk(tree, cut) && impl.GuardOk(tree, opened), true)
			if k > 0 && g.Open[k] {
				checkGuarded(t, tree, cut, k, false, false)
				checkEqual(t, "a node that is cut and opened", checkGuarded(t, tree, cut, k, true, true), g)
			}
		}
		for _, k := range notNodes(tree) {
			checkGuarded(t, tree, g, k, false, false)
			checkGuarded(t, tree, g, k, true, false)
		}
	})
}

// TestTwoNodesBelowTheSameCut reach each other, but nothing else.
func TestTwoNodesBelowTheSameCut(t *testing.T) {
	g := guardWithout(8, 4)
	for a := range 8 {
		for b := range 8 {
			inside := []int{4, 5, 7}
			want := slices.Contains(inside, a) == slices.Contains(inside, b)
			checkEqual(t, "CanReach", impl.CanReach(sampleTree(), g, a, b), want)
		}
	}
	checkEqual(t, "CutOff", impl.CutOff(sampleTree(), g), []int{4, 5, 7})
	checkNoAnswerFor(t, sampleTree(), g, fullPacket(pkRead), 5, 7)
	// A further cut above both makes no difference to them; one between does.
	checkEqual(t, "CanReach", impl.CanReach(sampleTree(), guardWithout(8, 1, 4), 5, 7), true)
	checkEqual(t, "CanReach", impl.CanReach(sampleTree(), guardWithout(8, 4, 7), 5, 7), false)
	checkEqual(t, "CanReach", impl.CanReach(sampleTree(), guardWithout(8, 4, 5), 5, 7), false)
	checkEqual(t, "CanReach", impl.CanReach(sampleTree(), guardWithout(8, 1), 6, 5), true)
}

func TestCanReach(t *testing.T) {
	unreachable := 0
	eachGuarded(func(tree []impl.Node, g impl.Guard) {
		var cutOff []int
		for a := range tree {
			for b := range tree {
				want := canReach(tree, g, a, b)
				if got := impl.CanReach(tree, g, a, b); got != want {
					t.Errorf("CanReach(%+v, %+v, %d, %d) = %v", tree, g, a, b, got)
				}
				if !want {
					unreachable++
				}
			}
			if !canReach(tree, g, 0, a) {
				cutOff = append(cutOff, a)
			}
		}
		checkEqual(t, "CutOff", impl.CutOff(tree, g), cutOff)
	})
	if unreachable < 1000 {
		t.Errorf("only %d pairs of nodes do not reach each other", unreachable)
	}
	// A node that is cut reaches itself.
	all := guardWithout(8, 1, 2, 3, 4, 5, 6, 7)
	for a := range 8 {
		for b := range 8 {
			checkEqual(t, "CanReach", impl.CanReach(sampleTree(), all, a, b), a == b)
		}
	}
	for _, k := range notNodes(sampleTree()) {
		for _, g := range []impl.Guard{guardWithout(8), all} {
			checkEqual(t, "CanReach from no node", impl.CanReach(sampleTree(), g, k, 0), false)
			checkEqual(t, "CanReach no node", impl.CanReach(sampleTree(), g, 0, k), false)
			checkEqual(t, "CanReach no node from itself", impl.CanReach(sampleTree(), g, k, k), false)
		}
	}
}

func TestAnswerFor(t *testing.T) {
	g := guardWithout(8, 1)
	for _, c := range []struct{ p, want impl.Packet }{
		{fullPacket(pkRead), impl.Packet{Kind: pkCompletion, From: 16, To: 16, Tag: 3, Status: 1}},
		{fullPacket(pkConfigRead), impl.Packet{Kind: pkCompletion, From: 1, To: 1, Tag: 2, Status: 1}},
		{fullPacket(pkConfigWrite), impl.Packet{Kind: pkCompletion, From: 1, To: 1, Tag: 2, Status: 1}},
	} {
		for a := range 8 {
			for b := range 8 {
				if canReach(sampleTree(), g, a, b) {
					checkNoAnswerFor(t, sampleTree(), g, c.p, a, b)
					continue
				}
				answer, ok := impl.AnswerFor(sampleTree(), g, c.p, a, b)
				checkEqual(t, "AnswerFor's answer", ok, true)
				checkEqual(t, "AnswerFor", answer, c.want)
				checkEqual(t, "IsPacket", impl.IsPacket(answer), true)
			}
		}
		for _, k := range notNodes(sampleTree()) {
			checkNoAnswerFor(t, sampleTree(), g, c.p, k, 5)
			checkNoAnswerFor(t, sampleTree(), g, c.p, 5, k)
			checkNoAnswerFor(t, sampleTree(), g, c.p, k, k)
		}
	}
	none := append(badPackets(), fullPacket(pkWrite), fullPacket(pkMessage), fullPacket(pkCompletion))
	for _, p := range none {
		checkNoAnswerFor(t, sampleTree(), g, p, 0, 5)
		checkNoAnswerFor(t, sampleTree(), g, p, 0, 2)
	}
	p := fullPacket(pkRead)
	for _, id := range []int{256, -1, math.MaxInt} {
		p.From = id
		checkNoAnswerFor(t, sampleTree(), g, p, 0, 5)
	}
}

// TestContainmentPromise is promise 33: cutting a node cuts off exactly what is
// below it.
func TestContainmentPromise(t *testing.T) {
	eachGuarded(func(tree []impl.Node, g impl.Guard) {
		before := impl.CutOff(tree, g)
		for k := 1; k < len(tree); k++ {
			cut, ok := impl.CutNode(tree, g, k)
			checkEqual(t, "CutNode's answer", ok, g.Open[k])
			for a := range tree {
				for b := range tree {
					apart := impl.IsBelow(tree, a, k) != impl.IsBelow(tree, b, k)
					checkEqual(t, "CanReach", impl.CanReach(tree, cut, a, b), impl.CanReach(tree, g, a, b) && !apart)
				}
			}
			var after []int
			for i := range tree {
				if slices.Contains(before, i) || impl.IsBelow(tree, i, k) {
					after = append(after, i)
				}
			}
			checkEqual(t, "CutOff", impl.CutOff(tree, cut), after)
		}
	})
}

func TestContainmentMemory(t *testing.T) {
	spare := append(sampleTree(), impl.Node{Parent: 77})
	open := append(guardWithout(8, 2).Open, false, true)
	p := fullPacket(pkRead)
	for _, size := range []int{8, 9} {
		// With nine elements, the guard is not valid.
		g := impl.Guard{Open: open[:size]}
		cut, _ := impl.CutNode(spare[:8], g, 1)
		notCut, _ := impl.CutNode(spare[:8], g, 2)
		opened, _ := impl.OpenNode(spare[:8], g, 2)
		notOpened, _ := impl.OpenNode(spare[:8], g, 1)
		for _, result := range []impl.Guard{cut, notCut, opened, notOpened} {
			list := result.Open[:cap(result.Open)]
			for k := range list {
				list[k] = k%2 == 0
			}
			checkEqual(t, "the guard with what is behind it", open, append(guardWithout(8, 2).Open, false, true))
		}
		overwrite(impl.CutOff(spare[:8], g))
		impl.CanReach(spare[:8], g, 0, 2)
		impl.AnswerFor(spare[:8], g, p, 0, 2)
		impl.GuardOk(spare[:8], g)
		checkEqual(t, "the guard with what is behind it", open, append(guardWithout(8, 2).Open, false, true))
		checkEqual(t, "the tree with what is behind it", spare, append(sampleTree(), impl.Node{Parent: 77}))
	}
}
