package tests

import (
	"math"
	"slices"
	"testing"

	"loop.example/g00986/impl"
)

const (
	clPosted  = 0
	clRequest = 1
	clAnswer  = 2
)

func sampleCredits() impl.Credits {
	return impl.Credits{Heads: []int{3, 2, 1}, Units: []int{4, 3, 2}}
}

// sameOfAll are credits with the same numbers for each class.
func sameOfAll(heads int, units int) impl.Credits {
	return impl.Credits{Heads: []int{heads, heads, heads}, Units: []int{units, units, units}}
}

// badCredits are credits that are not valid, each for one reason.
func badCredits() []impl.Credits {
	bad := []impl.Credits{
		{},
		{Heads: []int{1, 1, 1}}, {Units: []int{1, 1, 1}},
		{Heads: []int{1, 1}, Units: []int{1, 1, 1}}, {Heads: []int{1, 1, 1}, Units: []int{1, 1}},
		{Heads: []int{1, 1, 1, 1}, Units: []int{1, 1, 1}}, {Heads: []int{1, 1, 1}, Units: []int{1, 1, 1, 1}},
	}
	for class := range 3 {
		for _, count := range []int{-1, 31, math.MinInt, math.MaxInt} {
			heads, units := sameOfAll(9, 9), sameOfAll(9, 9)
			heads.Heads[class] = count
			units.Units[class] = count
			bad = append(bad, heads, units)
		}
	}
	return bad
}

// costOf says what a valid packet costs.
func costOf(p impl.Packet) (class int, units int) {
	class = []int{0, 0, 0, 1, 1, 1, 2}[p.Kind]
	return class, []int{0, 1, 1, 1, 1, 2, 2, 2, 2}[len(p.Data)]
}

// costlyPackets are valid packets of all kinds with all numbers of units.
func costlyPackets() []impl.Packet {
	var list []impl.Packet
	for kind := pkWrite; kind <= pkCompletion; kind++ {
		list = append(list, samplePacket(kind), fullPacket(kind))
	}
	for _, kind := range []int{pkWrite, pkMessage, pkCompletion} {
		for _, size := range []int{1, 4, 5, 8} {
			p := fullPacket(kind)
			p.Data = words(size)
			list = append(list, p)
		}
	}
	return list
}

// badPackets are packets that are not valid.
func badPackets() []impl.Packet {
	list := []impl.Packet{{}, {Kind: 7}, {Kind: -1}, {Kind: pkWrite}, {Kind: pkMessage, Data: words(9)}}
	for kind := pkWrite; kind <= pkCompletion; kind++ {
		p := fullPacket(kind)
		p.From = 256
		list = append(list, p)
	}
	return list
}

func checkNoCredits(t *testing.T, c impl.Credits, p impl.Packet) {
	t.Helper()
	checkEqual(t, "CanSend without credits", impl.CanSend(c, p), false)
	got, ok := impl.SpendCredits(c, p)
	checkEqual(t, "SpendCredits' answer", ok, false)
	checkEqual(t, "SpendCredits of none", got, c)
}

func checkNotReturned(t *testing.T, c impl.Credits, p impl.Packet) {
	t.Helper()
	got, ok := impl.ReturnCredits(c, p)
	checkEqual(t, "ReturnCredits' answer", ok, false)
	checkEqual(t, "ReturnCredits that is not possible", got, c)
}

func TestCreditsOk(t *testing.T) {
	checkEqual(t, "MaxCredit", impl.MaxCredit, 30)
	for _, c := range []impl.Credits{sampleCredits(), sameOfAll(0, 0), sameOfAll(30, 30), sameOfAll(0, 30), sameOfAll(30, 0)} {
		checkEqual(t, "CreditsOk", impl.CreditsOk(c), true)
	}
	for _, c := range badCredits() {
		if impl.CreditsOk(c) {
			t.Errorf("CreditsOk(%+v) = true", c)
		}
	}
}

// TestCreditsOfEachPacket tries all numbers of heads and units around what a
// packet costs; the other classes have plenty or nothing.
func TestCreditsOfEachPacket(t *testing.T) {
	for _, p := range costlyPackets() {
		class, cost := costOf(p)
		for heads := range 4 {
			for units := range 5 {
				for _, others := range []int{0, 30} {
					c := sameOfAll(others, others)
					c.Heads[class], c.Units[class] = heads, units
					if heads < 1 || units < cost {
						checkNoCredits(t, c, p)
						continue
					}
					checkEqual(t, "CanSend", impl.CanSend(c, p), true)
					want := sameOfAll(others, others)
					want.Heads[class], want.Units[class] = heads-1, units-cost
					got, ok := impl.SpendCredits(c, p)
					checkEqual(t, "SpendCredits' answer", ok, true)
					checkEqual(t, "SpendCredits", got, want)
				}
			}
		}
	}
}

func TestReturnCredits(t *testing.T) {
	for _, p := range costlyPackets() {
		class, cost := costOf(p)
		for heads := 27; heads <= 30; heads++ {
			for units := 26; units <= 30; units++ {
				for _, others := range []int{0, 30} {
					c := sameOfAll(others, others)
					c.Heads[class], c.Units[class] = heads, units
					if heads == 30 || units+cost > 30 {
						checkNotReturned(t, c, p)
						continue
					}
					want := sameOfAll(others, others)
					want.Heads[class], want.Units[class] = heads+1, units+cost
					got, ok := impl.ReturnCredits(c, p)
					checkEqual(t, "ReturnCredits' answer", ok, true)
					checkEqual(t, "ReturnCredits", got, want)
				}
			}
		}
	}
}

func TestCreditsOfInvalidArguments(t *testing.T) {
	for _, c := range badCredits() {
		for kind := pkWrite; kind <= pkCompletion; kind++ {
			checkNoCredits(t, c, fullPacket(kind))
			checkNotReturned(t, c, fullPacket(kind))
		}
		checkNoCredits(t, c, impl.Packet{})
		checkNotReturned(t, c, impl.Packet{})
	}
	for _, p := range badPackets() {
		checkNoCredits(t, sameOfAll(9, 9), p)
		checkNotReturned(t, sameOfAll(9, 9), p)
	}
}

func TestSameCredits(t *testing.T) {
	list := append(badCredits(), sampleCredits(), sameOfAll(0, 0), sameOfAll(1, 0), sameOfAll(0, 1))
	for i, a := range list {
		for k, b := range list {
			if got := impl.SameCredits(a, b); got != (i == k) {
				t.Errorf("SameCredits(%+v, %+v) = %v", a, b, got)
			}
		}
		copied := impl.Credits{Heads: slices.Clone(a.Heads), Units: slices.Clone(a.Units)}
		checkEqual(t, "SameCredits of a copy", impl.SameCredits(a, copied), true)
	}
	empty := impl.Credits{Heads: []int{}, Units: []int{}}
	checkEqual(t, "SameCredits of nothing", impl.SameCredits(impl.Credits{}, empty), true)
}

// TestCreditPromise is promise 14: credits that are spent can be returned.
func TestCreditPromise(t *testing.T) {
	n := numbers(14)
	packets := costlyPackets()
	for range 200 {
		first := impl.Credits{
			Heads: []int{n.below(31), n.below(31), n.below(31)},
			Units: []int{n.below(31), n.below(31), n.below(31)},
		}
		c := first
		var spent []impl.Packet
		for range 60 {
			p := packets[n.below(len(packets))]
			next, ok := impl.SpendCredits(c, p)
			checkEqual(t, "SpendCredits' answer", ok, impl.CanSend(c, p))
			if ok {
				spent = append(spent, p)
			}
			c = next
			checkEqual(t, "CreditsOk", impl.CreditsOk(c), true)
		}
		for len(spent) > 0 {
			i := n.below(len(spent))
			next, ok := impl.ReturnCredits(c, spent[i])
			checkEqual(t, "ReturnCredits' answer", ok, true)
			spent = slices.Delete(spent, i, i+1)
			c = next
		}
		checkEqual(t, "the credits in the end", impl.SameCredits(c, first), true)
	}
}

// spareCredits have spare capacity; checkSpareCredits checks that nothing of
// them was changed.
func spareCredits() impl.Credits {
	return impl.Credits{Heads: spareList(3, 4, 5), Units: spareList(6, 7, 8)}
}

func checkSpareCredits(t *testing.T, c impl.Credits) {
	t.Helper()
	checkSpare(t, "the heads", c.Heads, 3, 4, 5)
	checkSpare(t, "the units", c.Units, 6, 7, 8)
}

func TestCreditMemory(t *testing.T) {
	c := spareCredits()
	p := fullPacket(pkWrite)
	spent, _ := impl.SpendCredits(c, p)
	notSpent, _ := impl.SpendCredits(c, impl.Packet{})
	returned, _ := impl.ReturnCredits(c, p)
	notReturned, _ := impl.ReturnCredits(c, impl.Packet{})
	for _, result := range []impl.Credits{spent, notSpent, returned, notReturned} {
		checkApart(t, "a list of the credits", [][]int{result.Heads, result.Units})
		checkSpareCredits(t, c)
	}
	bad := impl.Credits{Heads: spareList(1), Units: spareList(2)}
	got, _ := impl.SpendCredits(bad, p)
	again, _ := impl.ReturnCredits(bad, p)
	for _, result := range []impl.Credits{got, again} {
		overwrite(result.Heads)
		overwrite(result.Units)
	}
	checkSpare(t, "the heads", bad.Heads, 1)
	checkSpare(t, "the units", bad.Units, 2)
}
