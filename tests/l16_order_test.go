package tests

import (
	"math"
	"slices"
	"testing"

	"loop.example/g00986/impl"
)

// replyTo is a reply that belongs to a read with this tag by this id.
func replyTo(to int, tag int) impl.Packet {
	return impl.Packet{Kind: pkCompletion, From: 33, To: to, Length: 3, Tag: tag, Data: []int{1, 2, 3}}
}

// orderedPackets are packets of all kinds; some of the replies have the same To
// and Tag.
func orderedPackets() []impl.Packet {
	var list []impl.Packet
	for kind := pkWrite; kind <= pkConfigWrite; kind++ {
		list = append(list, samplePacket(kind), fullPacket(kind))
	}
	late := replyTo(16, 3)
	late.Status, late.Data, late.From = 2, nil, 5
	return append(list, replyTo(16, 3), replyTo(16, 4), replyTo(17, 3), replyTo(0, 0), late)
}

// mayPass follows the description of MayPass for valid packets.
func mayPass(later impl.Packet, earlier impl.Packet) bool {
	posted := earlier.Kind == pkWrite || earlier.Kind == pkMessage
	reply := later.Kind == pkCompletion && earlier.Kind == pkCompletion
	if posted || reply && later.To == earlier.To && later.Tag == earlier.Tag {
		return false
	}
	return true
}

func TestMayPass(t *testing.T) {
	for _, later := range orderedPackets() {
		for _, earlier := range orderedPackets() {
			if got, want := impl.MayPass(later, earlier), mayPass(later, earlier); got != want {
				t.Errorf("MayPass(%+v, %+v) = %v, want %v", later, earlier, got, want)
			}
		}
	}
}

func TestMayPassByClass(t *testing.T) {
	write, read, reply, other := fullPacket(pkWrite), fullPacket(pkRead), replyTo(16, 3), replyTo(16, 4)
	for _, c := range []struct {
		later, earlier impl.Packet
		want           bool
	}{
		{write, write, false}, {write, read, true}, {write, reply, true},
		{read, write, false}, {read, read, true}, {read, reply, true},
		{reply, write, false}, {reply, read, true}, {reply, reply, false}, {reply, other, true}, {reply, replyTo(15, 3), true},
		{write, fullPacket(pkMessage), false}, {fullPacket(pkMessage), write, false}, {fullPacket(pkConfigWrite), read, true},
	} {
		checkEqual(t, "MayPass", impl.MayPass(c.later, c.earlier), c.want)
	}
}

func TestMustPass(t *testing.T) {
	for _, later := range orderedPackets() {
		for _, earlier := range orderedPackets() {
			want := later.Kind <= pkMessage && earlier.Kind > pkMessage
			if got := impl.MustPass(later, earlier); got != want {
				t.Errorf("MustPass(%+v, %+v) = %v, want %v", later, earlier, got, want)
			}
			if impl.MustPass(later, earlier) && !impl.MayPass(later, earlier) {
				t.Errorf("%+v must pass %+v, but may not", later, earlier)
			}
		}
	}
}

func TestInvalidPacketsDoNotPass(t *testing.T) {
	for _, bad := range badPackets() {
		for _, p := range append(orderedPackets(), bad) {
			if impl.MayPass(bad, p) || impl.MayPass(p, bad) {
				t.Errorf("MayPass(%+v, %+v), or the reverse", bad, p)
			}
			if impl.MustPass(bad, p) || impl.MustPass(p, bad) {
				t.Errorf("MustPass(%+v, %+v), or the reverse", bad, p)
			}
		}
	}
}

func TestPassersOf(t *testing.T) {
	write, read, reply, other, bad := fullPacket(pkWrite), fullPacket(pkRead), replyTo(16, 3), replyTo(16, 4), impl.Packet{}
	for _, c := range []struct {
		queue []impl.Packet
		want  []int
	}{
		{nil, nil},
		{[]impl.Packet{write}, []int{0}},
		{[]impl.Packet{write, read, write, reply}, []int{0}},
		{[]impl.Packet{read, write, read, write}, []int{0, 1}},
		{[]impl.Packet{read, read, reply, read}, []int{0, 1, 2, 3}},
		{[]impl.Packet{reply, reply, other, reply, other}, []int{0, 2}},
		{[]impl.Packet{reply, other, write, other, read}, []int{0, 1, 2}},
		{[]impl.Packet{bad}, nil},
		// A packet that is not valid neither passes nor stands in the way.
		{[]impl.Packet{bad, write, bad, read}, []int{1}},
		{[]impl.Packet{read, bad, reply, bad, reply, write}, []int{0, 2, 5}},
	} {
		checkEqual(t, "PassersOf", impl.PassersOf(c.queue), c.want)
	}
}

func TestPassersOfRandomQueues(t *testing.T) {
	n := numbers(16)
	packets := append(orderedPackets(), impl.Packet{})
	for range 500 {
		queue := make([]impl.Packet, n.below(20))
		var want []int
		for i := range queue {
			queue[i] = packets[n.below(len(packets))]
			passes := impl.IsPacket(queue[i])
			for _, earlier := range queue[:i] {
				passes = passes && (!impl.IsPacket(earlier) || mayPass(queue[i], earlier))
			}
			if passes {
				want = append(want, i)
			}
		}
		checkEqual(t, "PassersOf", impl.PassersOf(queue), want)
	}
}

// eachOrder calls check with all orders of n indices.
func eachOrder(n int, check func(order []int)) {
	var extend func(order []int)
	extend = func(order []int) {
		if len(order) == n {
			check(slices.Clone(order))
			return
		}
		for i := range n {
			if !slices.Contains(order, i) {
				extend(append(order, i))
			}
		}
	}
	extend(nil)
}

func TestIsLegalOrder(t *testing.T) {
	write, read, reply, other := fullPacket(pkWrite), fullPacket(pkRead), replyTo(16, 3), replyTo(16, 4)
	for _, c := range []struct {
		arrived []impl.Packet
		order   []int
		want    bool
	}{
		{nil, nil, true},
		{[]impl.Packet{write}, []int{0}, true},
		{[]impl.Packet{write, write}, []int{0, 1}, true},
		{[]impl.Packet{write, write}, []int{1, 0}, false},
		{[]impl.Packet{read, reply, write}, []int{2, 1, 0}, true},
		{[]impl.Packet{read, reply, reply}, []int{1, 2, 0}, true},
		{[]impl.Packet{read, reply, reply}, []int{2, 0, 1}, false},
		{[]impl.Packet{reply, read, other}, []int{2, 0, 1}, true},
		// The two writes are not neighbours in the order.
		{[]impl.Packet{write, read, read, write}, []int{3, 1, 2, 0}, false},
	} {
		checkEqual(t, "IsLegalOrder", impl.IsLegalOrder(c.arrived, c.order), c.want)
	}
}

func TestIsLegalOrderOfAllOrders(t *testing.T) {
	n := numbers(116)
	packets := append(orderedPackets(), impl.Packet{}, fullPacket(pkWrite))
	for range 60 {
		arrived := make([]impl.Packet, 4)
		for i := range arrived {
			arrived[i] = packets[n.below(len(packets))]
		}
		eachOrder(4, func(order []int) {
			want := true
			for at, i := range order {
				for _, k := range order[:at] {
					if i < k {
						want = want && impl.IsPacket(arrived[i]) && impl.IsPacket(arrived[k]) && mayPass(arrived[k], arrived[i])
					}
				}
			}
			if got := impl.IsLegalOrder(arrived, order); got != want {
				t.Errorf("IsLegalOrder(%+v, %v) = %v, want %v", arrived, order, got, want)
			}
		})
	}
}

func TestIsLegalOrderOfWrongIndices(t *testing.T) {
	arrived := []impl.Packet{fullPacket(pkRead), fullPacket(pkRead), fullPacket(pkRead)}
	for _, order := range [][]int{
		nil, {0}, {0, 1}, {0, 1, 2, 2}, {0, 1, 2, 3}, {0, 1, 1}, {1, 1, 2}, {0, 1, 3}, {-1, 1, 2}, {-1, 0, 1, 2},
		{0, 1, math.MaxInt}, {math.MinInt, 1, 2},
	} {
		checkEqual(t, "IsLegalOrder", impl.IsLegalOrder(arrived, order), false)
	}
	checkEqual(t, "IsLegalOrder of nothing", impl.IsLegalOrder(nil, []int{0}), false)
}

// TestOrderPromise is promise 16: posted packets stay in order.
func TestOrderPromise(t *testing.T) {
	n := numbers(216)
	packets := append(orderedPackets(), fullPacket(pkWrite), fullPacket(pkMessage))
	swapped := 0
	for range 80 {
		arrived := make([]impl.Packet, 5)
		for i := range arrived {
			arrived[i] = packets[n.below(len(packets))]
		}
		eachOrder(5, func(order []int) {
			if !impl.IsLegalOrder(arrived, order) {
				return
			}
			if !slices.IsSorted(order) {
				swapped++
			}
			var posted []int
			for _, i := range order {
				if arrived[i].Kind <= pkMessage {
					posted = append(posted, i)
				}
			}
			if !slices.IsSorted(posted) {
				t.Errorf("%v is a legal order of %+v", order, arrived)
			}
		})
	}
	if swapped < 100 {
		t.Errorf("only %d orders let a packet pass another one", swapped)
	}
}

func TestOrderMemory(t *testing.T) {
	queue, order := sparePackets(), spareList(0, 1)
	overwrite(impl.PassersOf(queue))
	impl.IsLegalOrder(queue, order)
	checkSparePackets(t, queue)
	checkSpare(t, "the order", order, 0, 1)
}
