package tests

import (
	"math"
	"slices"
	"testing"

	"loop.example/g00986/impl"
)

func sampleLimit() impl.Credits {
	return impl.Credits{Heads: []int{5, 4, 3}, Units: []int{8, 2, 6}}
}

// sampleChannel holds four packets, and the room of two others is free again.
func sampleChannel() impl.Channel {
	return impl.Channel{
		Limit:     sampleLimit(),
		Credits:   impl.Credits{Heads: []int{2, 2, 2}, Units: []int{4, 1, 5}},
		Held:      []impl.Packet{fullPacket(pkWrite), fullPacket(pkRead), fullPacket(pkMessage), fullPacket(pkCompletion)},
		Returning: []impl.Packet{fullPacket(pkConfigWrite), fullPacket(pkWrite)},
	}
}

// badChannels are channels that are not valid, each for one reason.
func badChannels() map[string]impl.Channel {
	bad := map[string]impl.Channel{"zero": {}}
	change := func(name string, change func(x *impl.Channel)) {
		x := sampleChannel()
		change(&x)
		bad[name] = x
	}
	for _, c := range badCredits() {
		change("limit "+impl.FormatInt(len(bad)), func(x *impl.Channel) { x.Limit = c })
		change("credits "+impl.FormatInt(len(bad)), func(x *impl.Channel) { x.Credits = c })
		bad["both "+impl.FormatInt(len(bad))] = impl.Channel{Limit: c, Credits: c}
	}
	for class := range 3 {
		for _, by := range []int{-1, 1} {
			name := impl.FormatInt(class) + " by " + impl.FormatInt(by)
			change("heads "+name, func(x *impl.Channel) { x.Credits.Heads[class] += by })
			change("units "+name, func(x *impl.Channel) { x.Credits.Units[class] += by })
			change("limit of heads "+name, func(x *impl.Channel) { x.Limit.Heads[class] += by })
			change("limit of units "+name, func(x *impl.Channel) { x.Limit.Units[class] += by })
		}
	}
	change("one held packet less", func(x *impl.Channel) { x.Held = x.Held[1:] })
	change("one held packet more", func(x *impl.Channel) { x.Held = append(x.Held, fullPacket(pkRead)) })
	change("one returning packet less", func(x *impl.Channel) { x.Returning = x.Returning[1:] })
	change("one returning packet more", func(x *impl.Channel) { x.Returning = append(x.Returning, fullPacket(pkRead)) })
	change("a longer packet", func(x *impl.Channel) { x.Held[0].Data = words(5) })
	change("another class", func(x *impl.Channel) { x.Held[1] = samplePacket(pkCompletion) })
	// The sums are right in these two, but one of the numbers is past its range.
	held := []impl.Packet{fullPacket(pkRead)}
	bad["a limit of 31"] = impl.Channel{
		Limit: impl.Credits{Heads: []int{1, 31, 1}, Units: []int{1, 1, 1}}, Held: held,
		Credits: impl.Credits{Heads: []int{1, 30, 1}, Units: []int{1, 1, 1}},
	}
	bad["credits below 0"] = impl.Channel{
		Limit: sameOfAll(0, 0), Held: held,
		Credits: impl.Credits{Heads: []int{0, -1, 0}, Units: []int{0, 0, 0}},
	}
	for _, p := range badPackets() {
		change("held packet "+impl.FormatInt(len(bad)), func(x *impl.Channel) { x.Held[0] = p })
		change("packet more "+impl.FormatInt(len(bad)), func(x *impl.Channel) { x.Held = append(x.Held, p) })
		change("returning packet "+impl.FormatInt(len(bad)), func(x *impl.Channel) { x.Returning = append(x.Returning, p) })
	}
	return bad
}

func checkNotPut(t *testing.T, x impl.Channel, p impl.Packet) {
	t.Helper()
	got, ok := impl.PutPacket(x, p)
	checkEqual(t, "PutPacket's answer", ok, false)
	checkEqual(t, "PutPacket that is not possible", got, x)
}

func checkNotFreed(t *testing.T, x impl.Channel, i int) {
	t.Helper()
	got, p, ok := impl.FreePacket(x, i)
	checkEqual(t, "FreePacket's answer", ok, false)
	checkEqual(t, "FreePacket's packet", p, impl.Packet{})
	checkEqual(t, "FreePacket that is not possible", got, x)
}

func checkNotTold(t *testing.T, x impl.Channel) {
	t.Helper()
	got, ok := impl.TellCredits(x)
	checkEqual(t, "TellCredits' answer", ok, false)
	checkEqual(t, "TellCredits that is not possible", got, x)
}

func TestNewChannel(t *testing.T) {
	for _, limit := range []impl.Credits{sampleLimit(), sameOfAll(0, 0), sameOfAll(30, 30)} {
		got, ok := impl.NewChannel(limit)
		checkEqual(t, "NewChannel's answer", ok, true)
		checkEqual(t, "NewChannel", got, impl.Channel{Limit: limit, Credits: limit})
		checkEqual(t, "ChannelOk", impl.ChannelOk(got), true)
	}
	for _, limit := range badCredits() {
		got, ok := impl.NewChannel(limit)
		checkEqual(t, "NewChannel's answer to no limit", ok, false)
		checkEqual(t, "NewChannel of no limit", got, impl.Channel{})
	}
}

func TestChannelOk(t *testing.T) {
	checkEqual(t, "ChannelOk", impl.ChannelOk(sampleChannel()), true)
	// The order of the packets and the list in which they are do not matter.
	x := sampleChannel()
	x.Returning = append(x.Held, x.Returning...)
	slices.Reverse(x.Returning)
	x.Held = nil
	checkEqual(t, "ChannelOk with all packets returning", impl.ChannelOk(x), true)
	for name, x := range badChannels() {
		if impl.ChannelOk(x) {
			t.Errorf("ChannelOk: %s: true", name)
		}
	}
}

func TestInvalidChannelsStay(t *testing.T) {
	for _, x := range badChannels() {
		checkNotPut(t, x, samplePacket(pkRead))
		checkNotFreed(t, x, 0)
		checkNotTold(t, x)
	}
}

func TestPutPacket(t *testing.T) {
	for _, p := range costlyPackets() {
		class, cost := costOf(p)
		for heads := range 3 {
			for units := range 4 {
				x := sampleChannel()
				x.Limit.Heads[class] += heads - x.Credits.Heads[class]
				x.Limit.Units[class] += units - x.Credits.Units[class]
				x.Credits.Heads[class], x.Credits.Units[class] = heads, units
				if heads < 1 || units < cost {
					checkNotPut(t, x, p)
					continue
				}
				got, ok := impl.PutPacket(x, p)
				want := x
				want.Credits, _ = impl.SpendCredits(x.Credits, p)
				want.Held = append(slices.Clone(x.Held), p)
				checkEqual(t, "PutPacket's answer", ok, true)
				checkEqual(t, "PutPacket", got, want)
				checkEqual(t, "ChannelOk", impl.ChannelOk(got), true)
			}
		}
	}
	for _, p := range badPackets() {
		checkNotPut(t, sampleChannel(), p)
	}
}

// TestPacketsWithoutData need a head, but no unit.
func TestPacketsWithoutData(t *testing.T) {
	x, _ := impl.NewChannel(impl.Credits{Heads: []int{1, 2, 1}, Units: []int{0, 0, 0}})
	checkNotPut(t, x, samplePacket(pkWrite))
	checkNotPut(t, x, samplePacket(pkConfigWrite))
	checkNotPut(t, x, fullPacket(pkCompletion))
	for _, kind := range []int{pkRead, pkConfigRead, pkCompletion} {
		next, ok := impl.PutPacket(x, samplePacket(kind))
		checkEqual(t, "PutPacket's answer", ok, true)
		x = next
	}
	checkEqual(t, "the credits", x.Credits, impl.Credits{Heads: []int{1, 0, 0}, Units: []int{0, 0, 0}})
	checkNotPut(t, x, samplePacket(pkRead))
	checkNotPut(t, x, samplePacket(pkCompletion))
	for range 3 {
		x, _, _ = impl.FreePacket(x, 0)
		x, _ = impl.TellCredits(x)
	}
	fresh, _ := impl.NewChannel(x.Limit)
	checkEqual(t, "the channel in the end", x, fresh)
}

func TestFreePacket(t *testing.T) {
	for i := range 4 {
		x := sampleChannel()
		got, p, ok := impl.FreePacket(x, i)
		want := sampleChannel()
		want.Returning = append(want.Returning, want.Held[i])
		want.Held = slices.Delete(want.Held, i, i+1)
		checkEqual(t, "FreePacket's answer", ok, true)
		checkEqual(t, "FreePacket's packet", p, x.Held[i])
		checkEqual(t, "FreePacket", got, want)
		checkEqual(t, "ChannelOk", impl.ChannelOk(got), true)
	}
	for _, i := range []int{-1, 4, 5, math.MinInt, math.MaxInt} {
		checkNotFreed(t, sampleChannel(), i)
	}
	empty, _ := impl.NewChannel(sampleLimit())
	checkNotFreed(t, empty, 0)
}

func TestTellCredits(t *testing.T) {
	want := sampleChannel()
	want.Credits = impl.Credits{Heads: []int{2, 3, 2}, Units: []int{4, 2, 5}}
	want.Returning = want.Returning[1:]
	x, ok := impl.TellCredits(sampleChannel())
	checkEqual(t, "TellCredits' answer", ok, true)
	checkEqual(t, "TellCredits", x, want)
	want.Credits = impl.Credits{Heads: []int{3, 3, 2}, Units: []int{5, 2, 5}}
	want.Returning = nil
	x, ok = impl.TellCredits(x)
	checkEqual(t, "TellCredits' answer", ok, true)
	checkEqual(t, "TellCredits", x, want)
	checkNotTold(t, x)
}

func TestHeldOf(t *testing.T) {
	x := sampleChannel()
	for class, want := range map[int]int{clPosted: 2, clRequest: 1, clAnswer: 1, -1: 0, 3: 0, math.MinInt: 0, math.MaxInt: 0} {
		checkEqual(t, "HeldOf class "+impl.FormatInt(class), impl.HeldOf(x, class), want)
	}
	checkEqual(t, "HeldOf of the zero Channel", impl.HeldOf(impl.Channel{}, clPosted), 0)
	// The channel need not be valid; a packet that is not valid has no class.
	invalid := impl.Channel{Held: append(badPackets(), x.Held...)}
	for class, want := range map[int]int{clPosted: 2, clRequest: 1, clAnswer: 1, -1: 0} {
		checkEqual(t, "HeldOf with packets that are not valid", impl.HeldOf(invalid, class), want)
	}
}

// checkRoom checks that the packets that are held and returning fit into the
// limit.
func checkRoom(t *testing.T, x impl.Channel) {
	t.Helper()
	var heads, units [3]int
	for _, p := range append(slices.Clone(x.Held), x.Returning...) {
		class, cost := costOf(p)
		heads[class]++
		units[class] += cost
	}
	for class := range 3 {
		if heads[class] > x.Limit.Heads[class] || units[class] > x.Limit.Units[class] {
			t.Fatalf("the buffer holds more than its limit: %+v", x)
		}
	}
}

// TestFlowPromise is promise 15: the buffer never holds more than its limit.
func TestFlowPromise(t *testing.T) {
	n := numbers(15)
	packets := costlyPackets()
	refused, put := 0, 0
	for range 60 {
		limit := impl.Credits{
			Heads: []int{n.below(6), n.below(6), n.below(6)},
			Units: []int{n.below(9), n.below(9), n.below(9)},
		}
		x, _ := impl.NewChannel(limit)
		var sent []impl.Packet
		for range 100 {
			var ok bool
			switch n.below(4) {
			case 0, 1:
				p := packets[n.below(len(packets))]
				if x, ok = impl.PutPacket(x, p); ok {
					put++
					sent = append(sent, p)
				} else {
					refused++
				}
			case 2:
				var p impl.Packet
				i := n.below(len(x.Held) + 1)
				if x, p, ok = impl.FreePacket(x, i); ok {
					checkEqual(t, "the packet", p, sent[i])
					sent = slices.Delete(sent, i, i+1)
				}
			case 3:
				x, _ = impl.TellCredits(x)
			}
			checkEqual(t, "ChannelOk", impl.ChannelOk(x), true)
			checkEqual(t, "the limit", x.Limit, limit)
			checkEqual(t, "what is held", x.Held, sent)
			checkRoom(t, x)
		}
	}
	if put < 500 || refused < 500 {
		t.Errorf("only %d packets were put and %d refused", put, refused)
	}
}

// sparePackets are two packets with spare capacity; checkSparePackets checks
// that nothing of them was changed.
func sparePackets() []impl.Packet {
	list := make([]impl.Packet, 2, 5)
	list[0] = impl.Packet{Kind: pkWrite, Data: spareList(1, 2)}
	list[1] = impl.Packet{Kind: pkMessage, From: 3, Data: spareList(3)}
	return list
}

func checkSparePackets(t *testing.T, list []impl.Packet) {
	t.Helper()
	checkSpare(t, "the first packet's data", list[0].Data, 1, 2)
	checkSpare(t, "the second packet's data", list[1].Data, 3)
	checkEqual(t, "the second packet's id", list[1].From, 3)
	checkEqual(t, "what is behind the packets", list[2:5], make([]impl.Packet, 3))
}

func dataOf(lists ...[]impl.Packet) [][]int {
	var data [][]int
	for _, list := range lists {
		for _, p := range list {
			data = append(data, p.Data)
		}
	}
	return data
}

// overwritePackets changes all packets of a list and what is behind them.
func overwritePackets(list []impl.Packet) {
	list = list[:cap(list)]
	for i := range list {
		overwrite(list[i].Data)
		list[i] = impl.Packet{Kind: -99}
	}
}

// checkOwnChannel checks that no two lists of a channel share memory, and
// overwrites it.
func checkOwnChannel(t *testing.T, x impl.Channel, more ...impl.Packet) {
	t.Helper()
	lists := [][]int{x.Limit.Heads, x.Limit.Units, x.Credits.Heads, x.Credits.Units}
	checkApart(t, "a list of the channel", append(lists, dataOf(x.Held, x.Returning, more)...))
	overwritePackets(x.Held)
	overwritePackets(x.Returning)
}

func TestFlowMemory(t *testing.T) {
	limit := spareCredits()
	made, _ := impl.NewChannel(limit)
	checkOwnChannel(t, made)
	checkSpareCredits(t, limit)

	// The same packets are held and returning, so that they cost twice as much.
	packets := sparePackets()
	x := impl.Channel{
		Limit:   impl.Credits{Heads: spareList(7, 4, 5), Units: spareList(10, 7, 8)},
		Credits: spareCredits(), Held: packets, Returning: packets,
	}
	data := spareList(8, 9)
	for range 2 {
		put, _ := impl.PutPacket(x, impl.Packet{Kind: pkWrite, Data: data})
		notPut, _ := impl.PutPacket(x, impl.Packet{})
		freed, p, _ := impl.FreePacket(x, 0)
		notFreed, _, _ := impl.FreePacket(x, 2)
		told, _ := impl.TellCredits(x)
		checkOwnChannel(t, freed, p)
		for _, result := range []impl.Channel{put, notPut, notFreed, told} {
			checkOwnChannel(t, result)
			checkSparePackets(t, packets)
			checkSpareCredits(t, x.Credits)
			checkSpare(t, "the limit's heads", x.Limit.Heads, 7, 4, 5)
		}
		checkSpare(t, "the data", data, 8, 9)
		// The second time, the channel is not valid.
		x.Limit.Units[1] = 31
	}
}
