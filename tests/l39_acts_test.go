package tests

import (
	"math"
	"slices"
	"testing"

	"loop.example/g00986/impl"
)

const (
	acWrite = 1
	acRead  = 2
	acCut   = 3
	acOpen  = 4
)

// validActs are acts of all kinds, with the least and the greatest numbers.
func validActs() []impl.Act {
	return []impl.Act{
		{Kind: acWrite}, {Kind: acWrite, Node: 11, A: 65535, B: 65535}, {Kind: acWrite, Node: 3, A: 70, B: 5},
		{Kind: acRead}, {Kind: acRead, Node: 11, A: 65535}, {Kind: acRead, Node: 5, A: 70},
		{Kind: acCut}, {Kind: acCut, Node: 11}, {Kind: acCut, Node: 1}, {Kind: acOpen}, {Kind: acOpen, Node: 11}, {Kind: acOpen, Node: 3},
	}
}

// badActs are acts that are not valid, each for one reason.
func badActs() []impl.Act {
	var bad []impl.Act
	for _, kind := range []int{0, -1, 5, 9, math.MinInt, math.MaxInt} {
		bad = append(bad, impl.Act{Kind: kind}, impl.Act{Kind: kind, Node: 1, A: 70, B: 5})
	}
	for kind := acWrite; kind <= acOpen; kind++ {
		for _, node := range []int{-1, 12, math.MinInt, math.MaxInt} {
			bad = append(bad, impl.Act{Kind: kind, Node: node})
		}
		for _, n := range []int{-1, 65536, math.MinInt, math.MaxInt} {
			bad = append(bad, impl.Act{Kind: kind, Node: 1, A: n}, impl.Act{Kind: kind, Node: 1, B: n})
		}
		for _, n := range []int{1, 65535} {
			if kind != acWrite {
				bad = append(bad, impl.Act{Kind: kind, Node: 1, B: n})
			}
			if kind == acCut || kind == acOpen {
				bad = append(bad, impl.Act{Kind: kind, Node: 1, A: n})
			}
		}
	}
	return bad
}

// randomAct is a valid act in most cases, for a fabric of few addresses.
func randomAct(n *numbers) impl.Act {
	a := impl.Act{Kind: 1 + n.below(4), Node: n.below(12)}
	if a.Kind <= acRead {
		a.A = n.below(300)
	}
	if a.Kind == acWrite {
		a.B = n.below(65536)
	}
	if n.below(20) == 0 {
		bad := badActs()
		a = bad[n.below(len(bad))]
	}
	return a
}

// afterAct follows the description of DoAct for a valid fabric. It changes the
// fabric.
func afterAct(f *impl.Fabric, a impl.Act) int {
	if !impl.ActOk(a) {
		return -9
	}
	if a.Kind == acCut || a.Kind == acOpen {
		open := a.Kind == acOpen
		if a.Node == 0 || a.Node >= len(f.Tree) || f.Guard.Open[a.Node] == open {
			return 0
		}
		f.Guard.Open[a.Node] = open
		return 1
	}
	k, code := targetOf(*f, a.Node, a.A, 1)
	if code == fcGood && a.Kind == acWrite {
		f.Memory[k][a.A-f.Windows[k].Base] = a.B
	}
	if code == fcGood && a.Kind == acRead {
		return f.Memory[k][a.A-f.Windows[k].Base]
	}
	if a.Kind == acRead {
		return -code
	}
	return code
}

// copyOf shares no memory with a fabric.
func copyOf(f impl.Fabric) impl.Fabric {
	f.Tree, f.Sizes, f.Windows = slices.Clone(f.Tree), slices.Clone(f.Sizes), slices.Clone(f.Windows)
	f.Memory, f.Guard.Open = slices.Clone(f.Memory), slices.Clone(f.Guard.Open)
	for k, list := range f.Memory {
		f.Memory[k] = slices.Clone(list)
	}
	return f
}

func checkDone(t *testing.T, f impl.Fabric, a impl.Act, want impl.Fabric, number int) {
	t.Helper()
	got, n := impl.DoAct(f, a)
	checkEqual(t, "DoAct's number", n, number)
	checkEqual(t, "DoAct", got, want)
}

func checkNotRun(t *testing.T, f impl.Fabric, acts []impl.Act) {
	t.Helper()
	got, list := impl.RunActs(f, acts)
	checkEqual(t, "RunActs", got, f)
	if list != nil {
		t.Errorf("RunActs(%+v, %+v) gives the numbers %v, want nil", f, acts, list)
	}
	checkEqual(t, "IsReplay", impl.IsReplay(f, acts, nil), false)
	checkEqual(t, "IsReplay", impl.IsReplay(f, acts, make([]int, len(acts))), false)
}

func TestActOk(t *testing.T) {
	got := []int{impl.AcWrite, impl.AcRead, impl.AcCut, impl.AcOpen, impl.MaxActs}
	checkEqual(t, "constants", got, []int{1, 2, 3, 4, 40})
	for _, a := range validActs() {
		if !impl.ActOk(a) {
			t.Errorf("ActOk(%+v) = false", a)
		}
	}
	for _, a := range badActs() {
		if impl.ActOk(a) {
			t.Errorf("ActOk(%+v) = true", a)
		}
	}
}

func TestDoAct(t *testing.T) {
	f := sampleFabric()
	want := sampleFabric()
	want.Memory[6][6] = 9
	checkDone(t, f, impl.Act{Kind: acWrite, A: 70, B: 9}, want, 0)
	want.Memory[6][6] = 0
	checkDone(t, f, impl.Act{Kind: acWrite, Node: 6, A: 70}, want, 0)
	for _, c := range []struct {
		a      impl.Act
		number int
	}{
		{impl.Act{Kind: acRead, A: 70}, 6006}, {impl.Act{Kind: acRead, Node: 5, A: 47}, 5015}, {impl.Act{Kind: acRead, Node: 7, A: 0}, 7000},
		{impl.Act{Kind: acRead, A: 48}, -1}, {impl.Act{Kind: acRead, A: 65535}, -1}, {impl.Act{Kind: acRead, A: 47}, -2}, {impl.Act{Kind: acRead, Node: 3, A: 70}, -2},
		{impl.Act{Kind: acWrite, A: 48, B: 1}, 1}, {impl.Act{Kind: acWrite, A: 65535, B: 1}, 1}, {impl.Act{Kind: acWrite, A: 47, B: 1}, 2},
		{impl.Act{Kind: acCut, Node: 3}, 0}, {impl.Act{Kind: acOpen, Node: 1}, 0}, {impl.Act{Kind: acCut}, 0}, {impl.Act{Kind: acOpen}, 0},
	} {
		checkDone(t, f, c.a, f, c.number)
	}
	for k := 1; k < 8; k++ {
		want := sampleFabric()
		open := !want.Guard.Open[k]
		want.Guard.Open[k] = open
		kind := acCut
		if open {
			kind = acOpen
		}
		checkDone(t, f, impl.Act{Kind: kind, Node: k}, want, 1)
	}
	// A word that was written as 0 is read as 0, not as a code.
	f.Memory[6][6] = 0
	checkDone(t, f, impl.Act{Kind: acRead, A: 70}, f, 0)
}

// TestActsOnNoNode: the act is valid, but the tree has no such node.
func TestActsOnNoNode(t *testing.T) {
	for _, f := range []impl.Fabric{sampleFabric(), openFabric()} {
		for k := 8; k < 12; k++ {
			checkDone(t, f, impl.Act{Kind: acWrite, Node: k, A: 70, B: 9}, f, 1)
			checkDone(t, f, impl.Act{Kind: acRead, Node: k, A: 70}, f, -1)
			checkDone(t, f, impl.Act{Kind: acCut, Node: k}, f, 0)
			checkDone(t, f, impl.Act{Kind: acOpen, Node: k}, f, 0)
		}
		for _, k := range []int{12, -1, math.MinInt, math.MaxInt} {
			for kind := acWrite; kind <= acOpen; kind++ {
				checkDone(t, f, impl.Act{Kind: kind, Node: k}, f, -9)
			}
		}
	}
	alone, _ := impl.NewFabric(chain(1), []int{0})
	for kind, number := range []int{-9, 1, -1, 0, 0} {
		checkDone(t, alone, impl.Act{Kind: kind, Node: 1}, alone, number)
	}
}

func TestActsThatAreNotDone(t *testing.T) {
	for _, a := range badActs() {
		checkDone(t, sampleFabric(), a, sampleFabric(), -9)
	}
	for _, f := range badFabrics() {
		for _, a := range validActs() {
			checkDone(t, f, a, f, -9)
		}
		checkNotRun(t, f, nil)
		checkNotRun(t, f, validActs())
		if lines := impl.FormatFabric(f); lines != nil {
			t.Errorf("FormatFabric(%+v) = %q, want nil", f, lines)
		}
	}
}

func TestRunActs(t *testing.T) {
	acts := []impl.Act{
		{Kind: acWrite, A: 70, B: 9}, {Kind: acRead, Node: 2, A: 70}, {Kind: acCut, Node: 1}, {Kind: acRead, A: 70}, {Kind: acWrite, Node: 6, A: 71, B: 8},
		{Kind: 7}, {Kind: acOpen, Node: 2}, {Kind: acOpen, Node: 1}, {Kind: acRead, A: 71}, {Kind: acRead, Node: 11, A: 71}, {Kind: acWrite, Node: 1, A: 200, B: 1},
	}
	want := sampleFabric()
	want.Memory[6][6], want.Memory[6][7] = 9, 8
	got, list := impl.RunActs(sampleFabric(), acts)
	checkEqual(t, "RunActs' numbers", list, []int{0, 9, 1, -2, 0, -9, 0, 1, 8, -1, 1})
	checkEqual(t, "RunActs", got, want)
	got, list = impl.RunActs(sampleFabric(), nil)
	checkEqual(t, "RunActs' numbers", list, []int{})
	checkEqual(t, "RunActs", got, sampleFabric())
}

// TestFortyActs are allowed, but not one more.
func TestFortyActs(t *testing.T) {
	acts := slices.Repeat([]impl.Act{{Kind: acCut, Node: 1}, {Kind: acOpen, Node: 1}}, 20)
	got, list := impl.RunActs(openFabric(), acts)
	checkEqual(t, "RunActs' numbers", list, slices.Repeat([]int{1}, 40))
	checkEqual(t, "RunActs", got, openFabric())
	checkEqual(t, "IsReplay", impl.IsReplay(openFabric(), acts, list), true)
	checkNotRun(t, openFabric(), append(acts, impl.Act{Kind: acRead}))
	checkNotRun(t, openFabric(), make([]impl.Act, 41))
	checkEqual(t, "IsReplay", impl.IsReplay(openFabric(), append(acts, acts[0]), append(list, 1)), false)
}

func TestFormatFabric(t *testing.T) {
	checkEqual(t, "FormatFabric", impl.FormatFabric(sampleFabric()), []string{"nodes 8", "buses 4", "room 176", "cut 4", "used 176"})
	f := openFabric()
	for _, list := range f.Memory {
		clear(list)
	}
	f.Memory[3][63], f.Memory[7][0], f.Memory[7][31] = 1, 65535, 7
	f.Guard = guardWithout(8, 1, 5, 2)
	checkEqual(t, "FormatFabric", impl.FormatFabric(f), []string{"nodes 8", "buses 4", "room 176", "cut 6", "used 3"})
	alone, _ := impl.NewFabric(chain(1), []int{0})
	checkEqual(t, "FormatFabric", impl.FormatFabric(alone), []string{"nodes 1", "buses 1", "room 0", "cut 0", "used 0"})
	twelve, _ := impl.NewFabric(chain(12), make([]int, 12))
	twelve.Guard = guardWithout(12, 1)
	checkEqual(t, "FormatFabric", impl.FormatFabric(twelve), []string{"nodes 12", "buses 12", "room 0", "cut 11", "used 0"})
}

func TestIsReplay(t *testing.T) {
	acts := []impl.Act{{Kind: acWrite, A: 70, B: 9}, {Kind: acRead, A: 70}, {Kind: 7}}
	list := []int{0, 9, -9}
	checkEqual(t, "IsReplay", impl.IsReplay(sampleFabric(), acts, list), true)
	checkEqual(t, "IsReplay of nothing", impl.IsReplay(sampleFabric(), nil, nil), true)
	checkEqual(t, "IsReplay of nothing", impl.IsReplay(sampleFabric(), []impl.Act{}, []int{}), true)
	for _, other := range [][]int{nil, {0}, {0, 9}, {0, 9, -9, 0}, {1, 9, -9}, {0, 6006, -9}, {0, 9, 0}, {9, 0, -9}} {
		checkEqual(t, "IsReplay", impl.IsReplay(sampleFabric(), acts, other), false)
	}
	checkEqual(t, "IsReplay", impl.IsReplay(sampleFabric(), acts[:2], list), false)
	checkEqual(t, "IsReplay", impl.IsReplay(sampleFabric(), nil, []int{0}), false)
}

// TestActsPromise is promise 39: in every scenario, a fabric stays valid. What
// has happened is what the acts describe, one by one.
func TestActsPromise(t *testing.T) {
	n := numbers(39)
	counts := map[int]int{}
	eachFabric(func(f impl.Fabric) {
		acts := make([]impl.Act, n.below(41))
		var list []int
		now, want := f, copyOf(f)
		for i := range acts {
			acts[i] = randomAct(&n)
			next, number := impl.DoAct(now, acts[i])
			checkEqual(t, "the number", number, afterAct(&want, acts[i]))
			checkEqual(t, "the fabric", next, want)
			checkEqual(t, "FabricOk", impl.FabricOk(next), true)
			checkEqual(t, "the number of strings", len(impl.FormatFabric(next)), 5)
			list = append(list, number)
			counts[min(number, 2)]++
			now = next
		}
		got, numbers := impl.RunActs(f, acts)
		checkEqual(t, "RunActs' numbers", numbers, list)
		checkEqual(t, "RunActs", got, now)
		checkEqual(t, "IsReplay", impl.IsReplay(f, acts, list), true)
	})
	for _, number := range []int{-9, -2, -1, 0, 1, 2} {
		if counts[number] < 50 {
			t.Errorf("the number %d came only %d times", number, counts[number])
		}
	}
}

func TestActsMemory(t *testing.T) {
	f := spareFabric()
	acts := append(validActs(), impl.Act{Kind: 77})
	list := spareList(1, 2)
	ran, numbers := impl.RunActs(f, acts[:12])
	notRun, _ := impl.RunActs(f, make([]impl.Act, 41))
	results := []impl.Fabric{ran, notRun}
	for _, a := range append(acts, impl.Act{Kind: acWrite, A: 70, B: 9}, impl.Act{Kind: acOpen, Node: 3}) {
		done, _ := impl.DoAct(f, a)
		results = append(results, done)
	}
	for _, result := range results {
		overwriteFabric(t, result)
	}
	overwrite(numbers)
	impl.IsReplay(f, acts[:2], list)
	impl.FormatFabric(f)
	checkSpareFabric(t, f)
	checkSpare(t, "the numbers", list, 1, 2)
	checkEqual(t, "the acts with what is behind them", acts, append(validActs(), impl.Act{Kind: 77}))

	f.Memory[3][0] = -1
	bad, _ := impl.DoAct(f, acts[0])
	notRun, _ = impl.RunActs(f, acts)
	overwriteFabric(t, bad)
	overwriteFabric(t, notRun)
	checkEqual(t, "the word that is none", f.Memory[3][0], -1)
}
