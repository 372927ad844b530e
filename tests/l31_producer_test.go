package tests

import (
	"math"
	"slices"
	"testing"

	"loop.example/g00986/impl"
)

func sampleCells() []int {
	cells := make([]int, 64)
	for i := range cells {
		cells[i] = 40000 + i
	}
	return cells
}

// badCells are no cells, each for one reason.
func badCells() [][]int {
	bad := [][]int{nil, {}, sampleCells()[:63], append(sampleCells(), 0)}
	for _, i := range []int{0, 30, 63} {
		for _, w := range []int{-1, 65536, math.MinInt, math.MaxInt} {
			cells := sampleCells()
			cells[i] = w
			bad = append(bad, cells)
		}
	}
	return bad
}

func writeOf(id int, address int, data ...int) impl.Packet {
	return impl.Packet{Kind: pkWrite, From: id, Address: address, Data: data}
}

// sampleData are words of which no two are equal.
func sampleData(n int) []int {
	data := make([]int, n)
	for i := range data {
		data[i] = 500 + i
	}
	return data
}

// applied follows the description of ApplyWrites for valid cells, word by word.
func applied(cells []int, list []impl.Packet) []int {
	cells = slices.Clone(cells)
	for _, p := range list {
		if p.Kind != pkWrite || !impl.IsPacket(p) {
			continue
		}
		for i, w := range p.Data {
			if p.Address+i < 64 {
				cells[p.Address+i] = w
			}
		}
	}
	return cells
}

func checkNotProduced(t *testing.T, id int, address int, data []int, vector int, v impl.Vectors) {
	t.Helper()
	if list, ok := impl.Produce(id, address, data, vector, v); list != nil || ok {
		t.Errorf("Produce(%d, %d, %v, %d, %+v) = %+v, %v, want nil, false", id, address, data, vector, v, list, ok)
	}
}

func checkProduced(t *testing.T, address int, data []int, want ...impl.Packet) {
	t.Helper()
	got, ok := impl.Produce(33, address, data, 3, sampleVectors())
	checkEqual(t, "Produce's answer", ok, true)
	checkEqual(t, "Produce", got, append(want, callBy(sampleVectors(), 33, 3)))
}

func TestApplyWrites(t *testing.T) {
	checkEqual(t, "MaxCells", impl.MaxCells, 64)
	checkEqual(t, "ApplyWrites of nothing", impl.ApplyWrites(sampleCells(), nil), sampleCells())
	// The writes are performed in order, each word at its own address.
	want := sampleCells()
	want[0], want[10], want[11], want[12], want[63] = 0, 1, 5, 6, 65535
	list := []impl.Packet{writeOf(33, 10, 1, 2, 3), writeOf(0, 11, 5, 6), writeOf(33, 63, 65535), writeOf(33, 0, 0)}
	checkEqual(t, "ApplyWrites", impl.ApplyWrites(sampleCells(), list), want)
}

// TestWritesPastTheLastCell store only the words that have a cell.
func TestWritesPastTheLastCell(t *testing.T) {
	for address := 50; address < 70; address++ {
		p := writeOf(33, address, words(8)...)
		checkEqual(t, "ApplyWrites", impl.ApplyWrites(sampleCells(), []impl.Packet{p}), applied(sampleCells(), []impl.Packet{p}))
	}
	want := sampleCells()
	copy(want[60:], words(4))
	checkEqual(t, "ApplyWrites", impl.ApplyWrites(sampleCells(), []impl.Packet{writeOf(33, 60, words(8)...)}), want)
	for _, address := range []int{64, 128, 65528} {
		checkEqual(t, "ApplyWrites", impl.ApplyWrites(sampleCells(), []impl.Packet{writeOf(33, address, words(8)...)}), sampleCells())
	}
}

func TestPacketsThatDoNotWrite(t *testing.T) {
	for kind := pkMessage; kind <= pkCompletion; kind++ {
		checkEqual(t, "ApplyWrites", impl.ApplyWrites(sampleCells(), []impl.Packet{samplePacket(kind), fullPacket(kind)}), sampleCells())
	}
	bad := append(badPackets(), writeOf(33, 5), writeOf(33, 5, words(9)...), writeOf(33, 5, 1, 65536), writeOf(33, 5, -1), writeOf(256, 5, 1),
		writeOf(-1, 5, 1), writeOf(33, -1, 1, 2), writeOf(33, 65536, 1), writeOf(33, math.MinInt, 1), writeOf(33, math.MaxInt, 1))
	for _, field := range []string{"To", "Length", "Tag", "Status"} {
		p := writeOf(33, 5, 1)
		*packetField(&p, field) = 1
		bad = append(bad, p)
	}
	for _, p := range bad {
		checkEqual(t, "ApplyWrites", impl.ApplyWrites(sampleCells(), []impl.Packet{p}), sampleCells())
	}
	// The others take effect nevertheless.
	want := sampleCells()
	want[7], want[8] = 1, 2
	list := slices.Concat([]impl.Packet{writeOf(33, 7, 1)}, bad, []impl.Packet{writeOf(33, 8, 2)})
	checkEqual(t, "ApplyWrites", impl.ApplyWrites(sampleCells(), list), want)
}

func TestApplyRandomWrites(t *testing.T) {
	n := numbers(31)
	for range 300 {
		list := make([]impl.Packet, n.below(9))
		for i := range list {
			list[i] = writeOf(n.below(257), n.below(75)-1, words(n.below(10))...)
			list[i].Kind = 1 + n.below(5)/4
		}
		checkEqual(t, "ApplyWrites", impl.ApplyWrites(sampleCells(), list), applied(sampleCells(), list))
	}
}

func TestInvalidCells(t *testing.T) {
	for _, cells := range badCells() {
		if got := impl.ApplyWrites(cells, []impl.Packet{writeOf(33, 10, 1)}); got != nil {
			t.Errorf("ApplyWrites(%v, ..) = %v, want nil", cells, got)
		}
		if got := impl.ApplyWrites(cells, nil); got != nil {
			t.Errorf("ApplyWrites(%v, nil) = %v, want nil", cells, got)
		}
	}
}

// TestNineWords need two packets, the second one with one word.
func TestNineWords(t *testing.T) {
	checkProduced(t, 10, sampleData(9), writeOf(33, 10, sampleData(9)[:8]...), writeOf(33, 18, sampleData(9)[8]))
	checkProduced(t, 65527, sampleData(9), writeOf(33, 65527, sampleData(9)[:8]...), writeOf(33, 65535, sampleData(9)[8]))
	checkNotProduced(t, 33, 65528, sampleData(9), 3, sampleVectors())
	for i := range 9 {
		for _, w := range []int{-1, 65536} {
			data := sampleData(9)
			data[i] = w
			checkNotProduced(t, 33, 10, data, 3, sampleVectors())
		}
	}
}

func TestProduce(t *testing.T) {
	// Without data, there is nothing but the call; the address does not matter.
	for _, address := range []int{0, 10, -1, 65536, math.MinInt, math.MaxInt} {
		checkProduced(t, address, nil)
		checkProduced(t, address, []int{})
	}
	for size := 1; size <= 40; size++ {
		data := sampleData(size)
		var want []impl.Packet
		for from := 0; from < size; from += 8 {
			want = append(want, writeOf(33, 100+from, data[from:min(size, from+8)]...))
		}
		checkProduced(t, 100, data, want...)
	}
	checkProduced(t, 0, []int{0}, writeOf(33, 0, 0))
	checkProduced(t, 65528, sampleData(8), writeOf(33, 65528, sampleData(8)...))
	all, ok := impl.Produce(255, 0, make([]int, 65536), 0, sampleVectors())
	checkEqual(t, "Produce's answer", ok, true)
	checkEqual(t, "the number of packets", len(all), 8193)
	checkEqual(t, "the call", all[8192], callBy(sampleVectors(), 255, 0))
}

func TestWhatIsNotProduced(t *testing.T) {
	for _, id := range notIds() {
		checkNotProduced(t, id, 10, sampleData(3), 3, sampleVectors())
		checkNotProduced(t, id, 10, nil, 3, sampleVectors())
	}
	for _, address := range []int{-1, -8, -9, 65534, 65536, math.MinInt, math.MaxInt, math.MaxInt - 7} {
		checkNotProduced(t, 33, address, sampleData(3), 3, sampleVectors())
		checkNotProduced(t, 33, address, sampleData(20), 3, sampleVectors())
	}
	checkNotProduced(t, 33, 0, make([]int, 65537), 3, sampleVectors())
	// A vector that is masked does not call, whether it is pending or not.
	for _, vector := range []int{1, 2, 4, 5, 8, -1, math.MinInt, math.MaxInt} {
		checkNotProduced(t, 33, 10, sampleData(3), vector, sampleVectors())
		checkNotProduced(t, 33, 10, nil, vector, sampleVectors())
	}
	for _, v := range badVectors() {
		for k := range 9 {
			checkNotProduced(t, 33, 10, sampleData(3), k, v)
		}
	}
}

func TestSeenBefore(t *testing.T) {
	list := []impl.Packet{writeOf(33, 10, 1), fullPacket(pkRead), {}, writeOf(33, 10, 2), fullPacket(pkRead), writeOf(33, 10)}
	for i, want := range []int{0, 1, 2, 3, 1, 5} {
		checkEqual(t, "SeenBefore", impl.SeenBefore(list, list[i]), list[:want])
	}
	for _, call := range []impl.Packet{writeOf(33, 10, 3), writeOf(33, 11, 1), writeOf(34, 10, 1), fullPacket(pkMessage)} {
		checkEqual(t, "SeenBefore of no packet", impl.SeenBefore(list, call), list)
		checkEqual(t, "SeenBefore in nothing", impl.SeenBefore(nil, call), []impl.Packet{})
	}
}

func TestIsDelivered(t *testing.T) {
	for size := range 65 {
		for address := range 65 - size {
			data := slices.Clone(sampleCells()[address : address+size])
			checkEqual(t, "IsDelivered", impl.IsDelivered(sampleCells(), address, data), true)
			if size > 0 {
				data[(7*address)%size]++
				checkEqual(t, "IsDelivered of other data", impl.IsDelivered(sampleCells(), address, data), false)
			}
		}
	}
	for size := range 65 {
		for _, address := range []int{-1, 65 - size, 64, 65, math.MinInt, math.MaxInt} {
			want := size == 0 && address == 64
			checkEqual(t, "IsDelivered", impl.IsDelivered(make([]int, 64), address, make([]int, size)), want)
		}
	}
	checkEqual(t, "IsDelivered of too much", impl.IsDelivered(make([]int, 64), 0, make([]int, 65)), false)
	checkEqual(t, "IsDelivered of too much", impl.IsDelivered(make([]int, 64), -1, make([]int, 65)), false)
	for _, cells := range [][]int{nil, make([]int, 63), make([]int, 65)} {
		checkEqual(t, "IsDelivered to no cells", impl.IsDelivered(cells, 0, nil), false)
		checkEqual(t, "IsDelivered to no cells", impl.IsDelivered(cells, 0, []int{0}), false)
	}
	// The cells may have any numbers.
	odd := make([]int, 64)
	odd[5] = -7
	checkEqual(t, "IsDelivered", impl.IsDelivered(odd, 4, []int{0, -7}), true)
}

// TestProducerPromise is promise 31: when the call has passed a queue, all data
// before it has passed, too. Other packets stand between the writes; none of
// them has an address of the data.
func TestProducerPromise(t *testing.T) {
	n := numbers(131)
	others := slices.DeleteFunc(orderedPackets(), func(p impl.Packet) bool { return p.Kind == pkWrite })
	others = append(others, fullPacket(pkWrite))
	early, called := 0, 0
	for range 300 {
		data := sampleData(1 + n.below(40))
		if n.below(3) == 0 {
			data = sampleData(9)
		}
		address := n.below(65 - len(data))
		list, ok := impl.Produce(33, address, data, 0, impl.Vectors{Address: 1000, Masked: []bool{false}, Pending: []bool{false}})
		checkEqual(t, "Produce's answer", ok, true)
		call := list[len(list)-1]
		for len(list) < 12 {
			list = slices.Insert(list, n.below(len(list)), others[n.below(len(others))])
		}
		q := impl.Queue{Credits: sameOfAll(1, 2)}
		for _, p := range list {
			q, ok = impl.EnterQueue(q, p)
			checkEqual(t, "EnterQueue's answer", ok, true)
		}
		for !slices.ContainsFunc(q.Sent, func(p impl.Packet) bool { return impl.SamePacket(p, call) }) {
			q, _ = impl.ForwardNext(q)
			q.Credits, _ = impl.ReturnCredits(q.Credits, list[n.below(len(list))])
		}
		called++
		if len(q.Waiting) > 0 {
			early++
		}
		cells := impl.ApplyWrites(sampleCells(), impl.SeenBefore(q.Sent, call))
		if !impl.IsDelivered(cells, address, data) {
			t.Errorf("%v was not delivered to %d before the call of %+v", data, address, q)
		}
	}
	if called < 300 || early < 100 {
		t.Errorf("of %d calls, only %d passed another packet", called, early)
	}
}

func TestProducerMemory(t *testing.T) {
	packets, cells, data := sparePackets(), spareList(sampleCells()...), spareList(sampleData(9)...)
	masked := []bool{false, true}
	v := impl.Vectors{Address: 50, Masked: masked[:1], Pending: []bool{false}}
	overwrite(impl.ApplyWrites(cells, packets))
	overwrite(impl.ApplyWrites(cells, nil))
	impl.IsDelivered(cells, 3, data)
	list, _ := impl.Produce(33, 10, data, 0, v)
	seen, all := impl.SeenBefore(packets, packets[1]), impl.SeenBefore(packets, impl.Packet{})
	checkApart(t, "the words of a packet", dataOf(list))
	checkApart(t, "the words of a packet", dataOf(seen))
	checkApart(t, "the words of a packet", dataOf(all))
	overwritePackets(list)
	overwritePackets(seen)
	overwritePackets(all)
	checkSparePackets(t, packets)
	checkSpare(t, "the cells", cells, sampleCells()...)
	checkSpare(t, "the data", data, sampleData(9)...)
	checkEqual(t, "the masks with what is behind them", masked, []bool{false, true})
}
