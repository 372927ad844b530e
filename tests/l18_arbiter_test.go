package tests

import (
	"math"
	"slices"
	"testing"

	"loop.example/g00986/impl"
)

// badArbiters are arbiters that are not valid, each for one reason.
func badArbiters() []impl.Arbiter {
	bad := []impl.Arbiter{
		{}, {Weights: []int{1, 1, 1, 1, 1}},
		{Weights: []int{2, 3}, At: 2}, {Weights: []int{2, 3}, At: -1}, {Weights: []int{2, 3}, At: math.MaxInt},
		{Weights: []int{2, 3}, Left: 3}, {Weights: []int{2, 3}, At: 1, Left: 4}, {Weights: []int{3, 2}, At: 1, Left: 3},
		{Weights: []int{2, 3}, Left: -1}, {Weights: []int{2, 3}, At: 1, Left: math.MinInt}, {Weights: []int{9}, Left: 10},
	}
	for _, weight := range []int{0, -1, 10, math.MinInt, math.MaxInt} {
		bad = append(bad, impl.Arbiter{Weights: []int{weight}}, impl.Arbiter{Weights: []int{1, 2, weight}})
	}
	return bad
}

// eachArbiter calls check with many valid arbiters and with all ways in which
// their ports can ask.
func eachArbiter(check func(a impl.Arbiter, asking []bool)) {
	n := numbers(18)
	for ports := 1; ports <= 4; ports++ {
		for range 6 {
			weights := make([]int, ports)
			for i := range weights {
				weights[i] = 1 + n.below(9)
			}
			for at := range ports {
				for left := 0; left <= weights[at]; left++ {
					for set := range 1 << ports {
						asking := make([]bool, ports)
						for i := range asking {
							asking[i] = set>>i%2 == 1
						}
						check(impl.Arbiter{Weights: weights, At: at, Left: left}, asking)
					}
				}
			}
		}
	}
}

// granted follows the description of Grant for a valid arbiter.
func granted(a impl.Arbiter, asking []bool) (impl.Arbiter, int) {
	if asking[a.At] && a.Left > 0 {
		a.Left--
		return a, a.At
	}
	for port := a.At + 1; port <= a.At+len(asking); port++ {
		if i := port % len(asking); asking[i] {
			a.At, a.Left = i, a.Weights[i]-1
			return a, i
		}
	}
	return a, -1
}

func checkNoGrant(t *testing.T, a impl.Arbiter, asking []bool) {
	t.Helper()
	got, port := impl.Grant(a, asking)
	checkEqual(t, "Grant's port", port, -1)
	checkEqual(t, "Grant to nobody", got, a)
	if grants := impl.RunGrants(a, asking, 3); grants != nil {
		t.Errorf("RunGrants(%+v, %v, 3) = %v, want nil", a, asking, grants)
	}
}

func TestArbiterOk(t *testing.T) {
	checkEqual(t, "MaxPorts", impl.MaxPorts, 4)
	eachArbiter(func(a impl.Arbiter, asking []bool) {
		if !impl.ArbiterOk(a) {
			t.Errorf("ArbiterOk(%+v) = false", a)
		}
	})
	for _, a := range badArbiters() {
		if impl.ArbiterOk(a) {
			t.Errorf("ArbiterOk(%+v) = true", a)
		}
	}
}

func TestNewArbiter(t *testing.T) {
	for _, weights := range [][]int{{1}, {9}, {2, 1}, {3, 9, 1}, {1, 2, 3, 4}, {9, 9, 9, 9}} {
		got, ok := impl.NewArbiter(weights)
		checkEqual(t, "NewArbiter's answer", ok, true)
		checkEqual(t, "NewArbiter", got, impl.Arbiter{Weights: weights, Left: weights[0]})
	}
	for _, weights := range [][]int{nil, {}, {0}, {10}, {-1}, {1, 0}, {1, 2, 3, 10}, {1, 1, 1, 1, 1}, {math.MinInt}, {math.MaxInt}} {
		got, ok := impl.NewArbiter(weights)
		checkEqual(t, "NewArbiter's answer", ok, false)
		checkEqual(t, "NewArbiter of no weights", got, impl.Arbiter{})
	}
}

func TestGrant(t *testing.T) {
	eachArbiter(func(a impl.Arbiter, asking []bool) {
		want, port := granted(a, asking)
		if port < 0 {
			checkNoGrant(t, a, asking)
			return
		}
		got, to := impl.Grant(a, asking)
		if to != port || got.At != want.At || got.Left != want.Left || !slices.Equal(got.Weights, a.Weights) {
			t.Errorf("Grant(%+v, %v) = %+v, %d, want %+v, %d", a, asking, got, to, want, port)
		}
		checkEqual(t, "ArbiterOk", impl.ArbiterOk(got), true)
	})
}

func TestGrantByHand(t *testing.T) {
	for _, c := range []struct {
		at, left   int
		asking     []bool
		port, rest int
	}{
		{0, 2, []bool{true, true, true}, 0, 1},
		{0, 0, []bool{true, true, true}, 1, 0},
		{1, 0, []bool{true, true, true}, 2, 4},
		{2, 0, []bool{true, true, true}, 0, 1},
		{0, 2, []bool{false, false, true}, 2, 4},
		{2, 5, []bool{false, true, false}, 1, 0},
		{2, 5, []bool{true, true, false}, 0, 1},
		// The port whose turn it was is the last one to be asked.
		{2, 0, []bool{false, false, true}, 2, 4},
		{0, 0, []bool{true, false, true}, 2, 4},
	} {
		got, port := impl.Grant(impl.Arbiter{Weights: []int{2, 1, 5}, At: c.at, Left: c.left}, c.asking)
		checkEqual(t, "Grant's port", port, c.port)
		checkEqual(t, "Grant", got, impl.Arbiter{Weights: []int{2, 1, 5}, At: c.port, Left: c.rest})
	}
}

// TestOnePort gets every grant for which it asks.
func TestOnePort(t *testing.T) {
	for weight := 1; weight <= 9; weight++ {
		a, _ := impl.NewArbiter([]int{weight})
		checkNoGrant(t, a, []bool{false})
		checkEqual(t, "RunGrants", impl.RunGrants(a, []bool{true}, 30), make([]int, 30))
		for n := range 30 {
			next, port := impl.Grant(a, []bool{true})
			checkEqual(t, "Grant's port", port, 0)
			checkEqual(t, "Grant", next, impl.Arbiter{Weights: []int{weight}, Left: weight - 1 - n%weight})
			a = next
		}
	}
}

func TestNoGrant(t *testing.T) {
	for _, a := range badArbiters() {
		asking := slices.Repeat([]bool{true}, len(a.Weights))
		checkNoGrant(t, a, asking)
		checkNoGrant(t, a, nil)
	}
	a := impl.Arbiter{Weights: []int{2, 1}, Left: 1}
	for _, asking := range [][]bool{nil, {true}, {true, true, true}, {false, false}} {
		checkNoGrant(t, a, asking)
	}
}

func TestRunGrants(t *testing.T) {
	eachArbiter(func(a impl.Arbiter, asking []bool) {
		if !slices.Contains(asking, true) {
			return
		}
		want := make([]int, 25)
		next := a
		for i := range want {
			next, want[i] = granted(next, asking)
		}
		if got := impl.RunGrants(a, asking, 25); !slices.Equal(got, want) {
			t.Errorf("RunGrants(%+v, %v, 25) = %v, want %v", a, asking, got, want)
		}
	})
}

func TestRunGrantsCount(t *testing.T) {
	a, _ := impl.NewArbiter([]int{1, 2})
	for _, count := range []int{1, 2, 199, 200} {
		checkEqual(t, "the number of grants", len(impl.RunGrants(a, []bool{true, true}, count)), count)
	}
	for _, count := range []int{0, -1, 201, math.MinInt, math.MaxInt} {
		if got := impl.RunGrants(a, []bool{true, true}, count); got != nil {
			t.Errorf("RunGrants(.., %d) = %v, want nil", count, got)
		}
	}
}

func TestSharesOf(t *testing.T) {
	grants := []int{0, 2, 2, -1, 0, 2, 7, math.MinInt}
	for port, want := range map[int]int{0: 2, 1: 0, 2: 3, -1: 1, 7: 1, math.MinInt: 1, math.MaxInt: 0} {
		checkEqual(t, "SharesOf port "+impl.FormatInt(port), impl.SharesOf(grants, port), want)
	}
	checkEqual(t, "SharesOf nothing", impl.SharesOf(nil, 0), 0)
}

// TestArbiterPromise is promise 18: if all ports ask, each gets its weight in
// every round.
func TestArbiterPromise(t *testing.T) {
	n := numbers(118)
	for range 300 {
		weights := make([]int, 1+n.below(4))
		round := 0
		for i := range weights {
			weights[i] = 1 + n.below(9)
			round += weights[i]
		}
		a, _ := impl.NewArbiter(weights)
		asking := slices.Repeat([]bool{true}, len(weights))
		rounds := 200 / round
		grants := impl.RunGrants(a, asking, rounds*round)
		for i := range rounds {
			for port, weight := range weights {
				if got := impl.SharesOf(grants[i*round:(i+1)*round], port); got != weight {
					t.Errorf("weights %v, round %d: port %d gets %d", weights, i, port, got)
				}
			}
		}
	}
}

func TestArbiterMemory(t *testing.T) {
	weights := spareList(2, 1)
	asking := []bool{true, true, false, false, false}[:2]
	made, _ := impl.NewArbiter(weights)
	granted, _ := impl.Grant(impl.Arbiter{Weights: weights, Left: 0}, asking)
	refused, _ := impl.Grant(impl.Arbiter{Weights: weights, Left: 9}, asking)
	overwrite(impl.RunGrants(impl.Arbiter{Weights: weights}, asking, 9))
	for _, result := range []impl.Arbiter{made, granted, refused} {
		overwrite(result.Weights)
		checkSpare(t, "the weights", weights, 2, 1)
		checkEqual(t, "who asks", asking[:5], []bool{true, true, false, false, false})
	}
}
