package tests

import (
	"slices"
	"testing"

	"loop.example/g00986/impl"
)

// sampleQueue has credits for one packet of each class.
func sampleQueue(waiting ...impl.Packet) impl.Queue {
	return impl.Queue{Waiting: waiting, Credits: sameOfAll(1, 2), Sent: []impl.Packet{fullPacket(pkMessage)}}
}

// badQueues are queues that are not valid, each for one reason.
func badQueues() []impl.Queue {
	read := fullPacket(pkRead)
	bad := []impl.Queue{
		{}, {Waiting: []impl.Packet{read}},
		{Waiting: slices.Repeat([]impl.Packet{read}, 13), Credits: sameOfAll(9, 9)},
		{Waiting: []impl.Packet{read}, Credits: sameOfAll(9, 9), Sent: slices.Repeat([]impl.Packet{read}, 1001)},
	}
	for _, c := range badCredits() {
		bad = append(bad, impl.Queue{Waiting: []impl.Packet{read}, Credits: c})
	}
	for _, p := range badPackets() {
		one, two := sampleQueue(read, p), sampleQueue(read)
		two.Sent = append(two.Sent, p)
		bad = append(bad, one, two)
	}
	return bad
}

func checkForwarded(t *testing.T, q impl.Queue, next int) impl.Queue {
	t.Helper()
	want := q
	p := q.Waiting[next]
	want.Waiting = slices.Delete(slices.Clone(q.Waiting), next, next+1)
	want.Credits, _ = impl.SpendCredits(q.Credits, p)
	want.Sent = append(slices.Clone(q.Sent), p)
	got, ok := impl.ForwardNext(q)
	checkEqual(t, "NextOut", impl.NextOut(q), next)
	checkEqual(t, "ForwardNext's answer", ok, true)
	checkEqual(t, "ForwardNext", got, want)
	checkEqual(t, "QueueOk", impl.QueueOk(got), true)
	return got
}

func checkNotForwarded(t *testing.T, q impl.Queue) {
	t.Helper()
	got, ok := impl.ForwardNext(q)
	checkEqual(t, "ForwardNext's answer", ok, false)
	checkEqual(t, "ForwardNext that is not possible", got, q)
	checkEqual(t, "ForwardAll of nothing", impl.ForwardAll(q), q)
}

func TestQueueOk(t *testing.T) {
	checkEqual(t, "MaxQueue", impl.MaxQueue, 12)
	read := []impl.Packet{fullPacket(pkRead)}
	for _, q := range []impl.Queue{
		{Credits: sameOfAll(0, 0)}, sampleQueue(), sampleQueue(orderedPackets()[:12]...),
		{Waiting: slices.Repeat(read, 12), Credits: sameOfAll(30, 30), Sent: slices.Repeat(read, 1000)},
	} {
		checkEqual(t, "QueueOk", impl.QueueOk(q), true)
	}
	for _, q := range badQueues() {
		checkEqual(t, "QueueOk of a bad queue", impl.QueueOk(q), false)
	}
}

func TestInvalidQueuesStay(t *testing.T) {
	for _, q := range badQueues() {
		got, ok := impl.EnterQueue(q, fullPacket(pkRead))
		checkEqual(t, "EnterQueue's answer", ok, false)
		checkEqual(t, "EnterQueue", got, q)
		checkEqual(t, "NextOut and BlockedBy", []int{impl.NextOut(q), impl.BlockedBy(q)}, []int{-1, -1})
		checkNotForwarded(t, q)
	}
}

func TestEnterQueue(t *testing.T) {
	for size := range 13 {
		q := sampleQueue(orderedPackets()[:size]...)
		got, ok := impl.EnterQueue(q, fullPacket(pkWrite))
		checkEqual(t, "EnterQueue's answer", ok, size < 12)
		want := q
		if size < 12 {
			want.Waiting = append(slices.Clone(q.Waiting), fullPacket(pkWrite))
		}
		checkEqual(t, "EnterQueue", got, want)
	}
	for _, p := range badPackets() {
		got, ok := impl.EnterQueue(sampleQueue(fullPacket(pkRead)), p)
		checkEqual(t, "EnterQueue's answer", ok, false)
		checkEqual(t, "EnterQueue of no packet", got, sampleQueue(fullPacket(pkRead)))
	}
}

func TestForwardNext(t *testing.T) {
	write, read, reply, other := fullPacket(pkWrite), fullPacket(pkRead), replyTo(16, 3), replyTo(16, 4)
	for _, c := range []struct {
		credits impl.Credits
		waiting []impl.Packet
		next    int
	}{
		{sameOfAll(1, 1), []impl.Packet{write}, 0},
		{sameOfAll(1, 1), []impl.Packet{read, write}, 0},
		{sameOfAll(30, 30), []impl.Packet{reply, other, write}, 0},
		{impl.Credits{Heads: []int{1, 0, 0}, Units: []int{1, 0, 0}}, []impl.Packet{read, reply, write, write}, 2},
		{impl.Credits{Heads: []int{1, 0, 1}, Units: []int{1, 0, 1}}, []impl.Packet{read, other, reply}, 1},
		{impl.Credits{Heads: []int{1, 1, 0}, Units: []int{1, 0, 1}}, []impl.Packet{reply, read, write}, 1},
		{impl.Credits{Heads: []int{1, 1, 1}, Units: []int{1, 0, 0}}, []impl.Packet{reply, replyTo(16, 5), write}, 2},
		{impl.Credits{Heads: []int{0, 2, 2}, Units: []int{9, 9, 9}}, []impl.Packet{read, write, reply}, 0},
	} {
		q := impl.Queue{Waiting: c.waiting, Credits: c.credits, Sent: []impl.Packet{reply}}
		checkForwarded(t, q, c.next)
	}
}

func TestNothingToForward(t *testing.T) {
	write, read, reply := fullPacket(pkWrite), fullPacket(pkRead), replyTo(16, 3)
	empty := reply
	empty.Data = nil
	for _, q := range []impl.Queue{
		{Credits: sameOfAll(30, 30)},
		{Waiting: []impl.Packet{write}, Credits: sameOfAll(0, 30)},
		{Waiting: []impl.Packet{write}, Credits: sameOfAll(30, 0)},
		// Requests and replies may not pass the posted packet, which has no credits.
		{Waiting: []impl.Packet{write, read, reply}, Credits: impl.Credits{Heads: []int{0, 9, 9}, Units: []int{9, 9, 9}}},
		// The second reply may not pass the first one, for which the units are missing.
		{Waiting: []impl.Packet{reply, empty}, Credits: impl.Credits{Heads: []int{9, 9, 9}, Units: []int{9, 9, 0}}},
	} {
		checkEqual(t, "NextOut", impl.NextOut(q), -1)
		checkNotForwarded(t, q)
	}
}

func TestForwardStopsAt1000(t *testing.T) {
	read := []impl.Packet{fullPacket(pkRead)}
	q := impl.Queue{Waiting: slices.Repeat(read, 3), Credits: sameOfAll(30, 30), Sent: slices.Repeat(read, 999)}
	full := checkForwarded(t, q, 0)
	checkEqual(t, "NextOut of a queue that has sent all it can", impl.NextOut(full), 0)
	checkNotForwarded(t, full)
	checkEqual(t, "ForwardAll", impl.ForwardAll(q), full)
}

func TestForwardAll(t *testing.T) {
	write, read, reply, other := fullPacket(pkWrite), fullPacket(pkRead), replyTo(16, 3), replyTo(16, 4)
	q := impl.Queue{
		Waiting: []impl.Packet{read, read, reply, write, other, write, read},
		Credits: impl.Credits{Heads: []int{1, 1, 5}, Units: []int{3, 3, 3}},
	}
	want := impl.Queue{
		Waiting: []impl.Packet{read, write, read},
		Credits: impl.Credits{Heads: []int{0, 0, 3}, Units: []int{2, 3, 1}},
		Sent:    []impl.Packet{read, reply, write, other},
	}
	checkEqual(t, "ForwardAll", impl.ForwardAll(q), want)
	q.Credits = sameOfAll(30, 30)
	all := impl.ForwardAll(q)
	checkEqual(t, "ForwardAll with plenty of credits", all.Sent, q.Waiting)
	checkEqual(t, "what is left", len(all.Waiting), 0)
}

// TestPostedPacketsAreNotBlocked has posted packets behind requests and
// replies without credits.
func TestPostedPacketsAreNotBlocked(t *testing.T) {
	q := impl.Queue{Credits: impl.Credits{Heads: []int{2, 0, 0}, Units: []int{4, 0, 0}}}
	for _, p := range orderedPackets() {
		if p.Kind > pkMessage && len(q.Waiting) < 9 {
			q.Waiting = append(q.Waiting, p)
		}
	}
	before := len(q.Waiting)
	q.Waiting = append(q.Waiting, fullPacket(pkMessage), fullPacket(pkWrite), fullPacket(pkWrite))
	checkEqual(t, "BlockedBy", impl.BlockedBy(q), 2)
	q = checkForwarded(t, q, before)
	checkEqual(t, "BlockedBy", impl.BlockedBy(q), 1)
	q = checkForwarded(t, q, before)
	checkEqual(t, "BlockedBy", impl.BlockedBy(q), 0)
	checkNotForwarded(t, q)
}

func TestBlockedBy(t *testing.T) {
	write, read, reply := fullPacket(pkWrite), fullPacket(pkRead), replyTo(16, 3)
	for _, c := range []struct {
		credits impl.Credits
		waiting []impl.Packet
		want    int
	}{
		{sameOfAll(9, 9), nil, 0},
		{sameOfAll(9, 9), []impl.Packet{read, reply, write}, 0},
		{sameOfAll(9, 9), []impl.Packet{write, read, reply, write, reply}, 4},
		{sameOfAll(0, 9), []impl.Packet{write, read, reply, write}, 0},
		{impl.Credits{Heads: []int{0, 1, 0}, Units: []int{9, 9, 9}}, []impl.Packet{write, read, reply, read}, 2},
		{impl.Credits{Heads: []int{0, 0, 1}, Units: []int{0, 0, 1}}, []impl.Packet{reply, reply, replyTo(1, 3), reply}, 2},
	} {
		checkEqual(t, "BlockedBy", impl.BlockedBy(impl.Queue{Waiting: c.waiting, Credits: c.credits}), c.want)
	}
}

// TestNextOutAndPassersOf checks NextOut and BlockedBy against PassersOf and
// CanSend.
func TestNextOutAndPassersOf(t *testing.T) {
	n := numbers(17)
	packets := orderedPackets()
	for range 500 {
		q := impl.Queue{Credits: impl.Credits{Heads: []int{n.below(2), n.below(2), n.below(2)}, Units: []int{n.below(3), n.below(3), n.below(3)}}}
		for range n.below(13) {
			q.Waiting = append(q.Waiting, packets[n.below(len(packets))])
		}
		passers := impl.PassersOf(q.Waiting)
		next, blocked := -1, 0
		for i, p := range q.Waiting {
			switch {
			case !impl.CanSend(q.Credits, p):
			case !slices.Contains(passers, i):
				blocked++
			case next < 0:
				next = i
			}
		}
		checkEqual(t, "NextOut and BlockedBy", []int{impl.NextOut(q), impl.BlockedBy(q)}, []int{next, blocked})
	}
}

// TestQueuePromise is promise 17: packets leave a queue in an order that the
// rules allow. Each packet has a From of its own, by which it is found again.
func TestQueuePromise(t *testing.T) {
	n := numbers(117)
	packets := orderedPackets()
	overtaken := 0
	for range 100 {
		q := impl.Queue{Credits: sameOfAll(1, 2)}
		var arrived []impl.Packet
		for range 80 {
			switch n.below(3) {
			case 0:
				p := packets[n.below(len(packets))]
				p.From = len(arrived)
				next, ok := impl.EnterQueue(q, p)
				if ok {
					arrived = append(arrived, p)
				}
				q = next
			case 1:
				q, _ = impl.ForwardNext(q)
			case 2:
				q.Credits, _ = impl.ReturnCredits(q.Credits, packets[n.below(len(packets))])
			}
		}
		q.Credits = sameOfAll(30, 30)
		q = impl.ForwardAll(q)
		var order []int
		for _, p := range q.Sent {
			order = append(order, p.From)
		}
		if len(q.Waiting) > 0 || !impl.IsLegalOrder(arrived, order) {
			t.Errorf("%v is no legal order of %+v", order, arrived)
		}
		if !slices.IsSorted(order) {
			overtaken++
		}
	}
	if overtaken < 50 {
		t.Errorf("a packet passed another one in only %d queues", overtaken)
	}
}

func TestQueueMemory(t *testing.T) {
	waiting, other, credits, data := sparePackets(), sparePackets(), spareCredits(), spareList(4, 5)
	// In the second queue, the packets that wait and those that were sent share
	// memory; the third one is not valid.
	for _, sent := range [][]impl.Packet{other, waiting, {{}}} {
		q := impl.Queue{Waiting: waiting, Credits: credits, Sent: sent}
		entered, _ := impl.EnterQueue(q, impl.Packet{Kind: pkWrite, Data: data})
		refused, _ := impl.EnterQueue(q, impl.Packet{})
		next, _ := impl.ForwardNext(q)
		impl.NextOut(q)
		impl.BlockedBy(q)
		for _, result := range []impl.Queue{entered, refused, next, impl.ForwardAll(q)} {
			lists := [][]int{result.Credits.Heads, result.Credits.Units}
			checkApart(t, "a list of the queue", append(lists, dataOf(result.Waiting, result.Sent)...))
			overwritePackets(result.Waiting)
			overwritePackets(result.Sent)
			checkSparePackets(t, waiting)
			checkSparePackets(t, other)
			checkSpareCredits(t, credits)
			checkSpare(t, "the data", data, 4, 5)
		}
	}
}
