package tests

import (
	"math"
	"testing"

	"loop.example/g00986/impl"
)

const (
	tsDetect   = 0
	tsPolling  = 1
	tsConfig   = 2
	tsActive   = 3
	tsRecovery = 4
	tsDisabled = 5
	evPresent  = 0
	evLocked   = 1
	evAgreed   = 2
	evErrors   = 3
	evGone     = 4
	evDisable  = 5
	evTimeout  = 6
)

// eachPort calls check with every valid port.
func eachPort(check func(p impl.Port)) {
	for state := tsDetect; state <= tsDisabled; state++ {
		for _, offer := range widths {
			for retries := range 4 {
				p := impl.Port{State: state, Offer: offer, Retries: retries}
				if state != tsActive && state != tsRecovery {
					check(p)
					continue
				}
				for _, width := range widths {
					if p.Width = width; width <= offer {
						check(p)
					}
				}
			}
		}
	}
}

// badPorts are ports that are not valid, each for one reason.
func badPorts() []impl.Port {
	bad := []impl.Port{
		{}, {Offer: 3}, {Offer: -1}, {Offer: 5}, {Offer: 8}, {Offer: math.MaxInt}, {Offer: math.MinInt},
		{State: tsActive, Offer: 4}, {State: tsRecovery, Offer: 4},
		{State: tsActive, Offer: 4, Width: 3}, {State: tsRecovery, Offer: 4, Width: 3},
		{State: tsActive, Offer: 4, Width: 8}, {State: tsRecovery, Offer: 4, Width: -1},
		{State: tsActive, Offer: 2, Width: 4}, {State: tsRecovery, Offer: 1, Width: 2},
	}
	for _, state := range []int{-1, 6, 7, math.MinInt, math.MaxInt} {
		bad = append(bad, impl.Port{State: state, Offer: 4}, impl.Port{State: state, Offer: 4, Width: 4})
	}
	for _, state := range []int{tsDetect, tsPolling, tsConfig, tsDisabled} {
		bad = append(bad, impl.Port{State: state, Offer: 4, Width: 1}, impl.Port{State: state, Offer: 4, Width: -1})
	}
	for _, retries := range []int{-1, 4, math.MinInt, math.MaxInt} {
		bad = append(bad, impl.Port{Offer: 4, Retries: retries}, impl.Port{State: tsActive, Offer: 4, Width: 4, Retries: retries})
	}
	return bad
}

// afterEvent follows the description of PortStep for a valid port, event by
// event.
func afterEvent(p impl.Port, event int, other int) (impl.Port, bool) {
	fresh := impl.Port{State: tsDetect, Offer: p.Offer}
	after := p
	switch {
	case event == evPresent && p.State == tsDetect:
		after.State = tsPolling
	case event == evLocked && p.State == tsPolling:
		after.State, after.Retries = tsConfig, 0
	case event == evLocked && p.State == tsRecovery:
		after.State, after.Retries = tsActive, 0
	case event == evAgreed && p.State == tsConfig && (other == 1 || other == 2 || other == 4):
		after.State, after.Width = tsActive, min(p.Offer, other)
	case event == evErrors && p.State == tsActive:
		after.State = tsRecovery
	case event == evGone && p.State != tsDisabled:
		return fresh, true
	case event == evDisable:
		return impl.Port{State: tsDisabled, Offer: p.Offer}, true
	case event == evTimeout && (p.State == tsPolling || p.State == tsConfig):
		return fresh, true
	case event == evTimeout && p.State == tsRecovery && p.Retries == 3:
		return fresh, true
	case event == evTimeout && p.State == tsRecovery:
		after.Retries++
	default:
		return p, false
	}
	return after, true
}

func TestTrainConstants(t *testing.T) {
	got := []int{
		impl.TsDetect, impl.TsPolling, impl.TsConfig, impl.TsActive, impl.TsRecovery, impl.TsDisabled,
		impl.EvPresent, impl.EvLocked, impl.EvAgreed, impl.EvErrors, impl.EvGone, impl.EvDisable, impl.EvTimeout,
	}
	checkEqual(t, "the constants", got, []int{0, 1, 2, 3, 4, 5, 0, 1, 2, 3, 4, 5, 6})
}

func TestPortOk(t *testing.T) {
	eachPort(func(p impl.Port) {
		if !impl.PortOk(p) {
			t.Errorf("PortOk(%+v) = false", p)
		}
	})
	for _, p := range badPorts() {
		if impl.PortOk(p) {
			t.Errorf("PortOk(%+v) = true", p)
		}
	}
}

func TestPortStep(t *testing.T) {
	eachPort(func(p impl.Port) {
		for _, event := range []int{-1, 0, 1, 2, 3, 4, 5, 6, 7, math.MinInt, math.MaxInt} {
			for _, other := range []int{0, 1, 2, 3, 4, 5, 8, -1, math.MinInt, math.MaxInt} {
				got, ok := impl.PortStep(p, event, other)
				want, is := afterEvent(p, event, other)
				if got != want || ok != is || !impl.PortOk(got) {
					t.Errorf("PortStep(%+v, %d, %d) = %+v, %v, want %+v, %v", p, event, other, got, ok, want, is)
				}
			}
		}
	})
}

func TestInvalidPortsStay(t *testing.T) {
	for _, p := range badPorts() {
		for event := evPresent; event <= evTimeout; event++ {
			if got, ok := impl.PortStep(p, event, 4); ok || got != p {
				t.Errorf("PortStep(%+v, %d, 4) = %+v, %v", p, event, got, ok)
			}
		}
		if got, n := impl.PortRun(p, []int{evDisable, evGone}, 4); n != 0 || got != p {
			t.Errorf("PortRun(%+v, ..) = %+v, %d", p, got, n)
		}
	}
}

// TestThirdRetry counts the timeouts in recovery: three are retries, and the
// fourth one leads to TsDetect.
func TestThirdRetry(t *testing.T) {
	p := impl.Port{State: tsRecovery, Width: 2, Offer: 4}
	for retries := 1; retries <= 3; retries++ {
		next, ok := impl.PortStep(p, evTimeout, 0)
		checkEqual(t, "PortStep's answer", ok, true)
		checkEqual(t, "the port", next, impl.Port{State: tsRecovery, Width: 2, Offer: 4, Retries: retries})
		p = next
	}
	locked, _ := impl.PortStep(p, evLocked, 0)
	checkEqual(t, "the port that is locked after three retries", locked, impl.Port{State: tsActive, Width: 2, Offer: 4})
	gone, ok := impl.PortStep(p, evTimeout, 0)
	checkEqual(t, "PortStep's answer", ok, true)
	checkEqual(t, "the port after the fourth timeout", gone, impl.Port{Offer: 4})
}

func TestPortRun(t *testing.T) {
	fresh := impl.Port{Offer: 4}
	for _, c := range []struct {
		events []int
		want   impl.Port
		done   int
	}{
		{nil, fresh, 0},
		{[]int{evLocked, evAgreed, evErrors, evTimeout, 9, -1}, fresh, 0},
		{[]int{evPresent, evPresent, evLocked}, impl.Port{State: tsConfig, Offer: 4}, 2},
		{[]int{evPresent, evLocked, evAgreed, evErrors, evTimeout, evTimeout}, impl.Port{State: tsRecovery, Width: 2, Offer: 4, Retries: 2}, 6},
		{[]int{evPresent, evLocked, evAgreed, evGone, evPresent}, impl.Port{State: tsPolling, Offer: 4}, 5},
		{[]int{evGone, evDisable, evPresent, evGone, evTimeout, evDisable}, impl.Port{State: tsDisabled, Offer: 4}, 3},
	} {
		got, n := impl.PortRun(fresh, c.events, 2)
		if got != c.want || n != c.done {
			t.Errorf("PortRun(%v) = %+v, %d, want %+v, %d", c.events, got, n, c.want, c.done)
		}
	}
}

func TestPortRunStepByStep(t *testing.T) {
	n := numbers(13)
	kinds := []int{0, 0, 0, 1, 1, 1, 1, 2, 2, 2, 3, 3, 4, 5, 6, 6, 7}
	for range 300 {
		p := impl.Port{Offer: widths[n.below(3)]}
		other := n.below(6)
		events := make([]int, n.below(40))
		for i := range events {
			events[i] = kinds[n.below(len(kinds))]
		}
		want, done := p, 0
		for _, event := range events {
			next, ok := afterEvent(want, event, other)
			if ok {
				done++
			}
			want = next
		}
		got, number := impl.PortRun(p, events, other)
		checkEqual(t, "PortRun", got, want)
		checkEqual(t, "PortRun's number", number, done)
	}
}

func TestAgreedWidth(t *testing.T) {
	eachPort(func(p impl.Port) {
		for _, offer := range widths {
			q := impl.Port{Offer: offer}
			checkEqual(t, "AgreedWidth", []int{impl.AgreedWidth(p, q), impl.AgreedWidth(q, p)}, []int{min(p.Offer, offer), min(p.Offer, offer)})
		}
	})
	for _, bad := range badPorts() {
		good := impl.Port{State: tsDisabled, Offer: 2}
		checkEqual(t, "AgreedWidth", []int{impl.AgreedWidth(bad, good), impl.AgreedWidth(good, bad), impl.AgreedWidth(bad, bad)}, []int{0, 0, 0})
	}
}

func TestStateName(t *testing.T) {
	for state, name := range []string{"detect", "polling", "config", "active", "recovery", "disabled"} {
		checkEqual(t, "StateName", impl.StateName(state), name)
	}
	for _, state := range []int{-1, 6, 7, math.MinInt, math.MaxInt} {
		checkEqual(t, "StateName of no state", impl.StateName(state), "")
	}
}

// TestTrainPromise is promise 13: two ports that train with each other are
// active with the same width.
func TestTrainPromise(t *testing.T) {
	events := []int{evPresent, evLocked, evAgreed}
	again := []int{evErrors, evTimeout, evLocked}
	for _, one := range widths {
		for _, two := range widths {
			a, n := impl.PortRun(impl.Port{Offer: one}, events, two)
			b, m := impl.PortRun(impl.Port{Offer: two}, events, one)
			width := impl.AgreedWidth(a, b)
			checkEqual(t, "the numbers of events", []int{n, m}, []int{3, 3})
			checkEqual(t, "the width", width, min(one, two))
			checkEqual(t, "the first port", a, impl.Port{State: tsActive, Width: width, Offer: one})
			checkEqual(t, "the second port", b, impl.Port{State: tsActive, Width: width, Offer: two})
			recovered, _ := impl.PortRun(a, again, two)
			checkEqual(t, "the first port after a recovery", recovered, a)
		}
	}
}

func TestTrainMemory(t *testing.T) {
	events := spareList(evPresent, evLocked)
	impl.PortRun(impl.Port{Offer: 1}, events, 1)
	checkSpare(t, "the events", events, evPresent, evLocked)
}
