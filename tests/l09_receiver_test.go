package tests

import (
	"math"
	"slices"
	"testing"

	"loop.example/g00986/impl"
)

const (
	vdAccept  = 0
	vdOld     = 1
	vdGap     = 2
	vdDamaged = 3
)

func fullReceiver(elements int) impl.Receiver {
	return impl.Receiver{Expected: 2, Accepted: slices.Repeat([][]int{{1, 2}}, elements)}
}

func badReceivers() map[string]impl.Receiver {
	return map[string]impl.Receiver{
		"Expected below 0":  {Expected: -1},
		"Expected past end": {Expected: 16},
		"Expected extreme":  {Expected: math.MaxInt},
		"1001 elements":     fullReceiver(1001),
		"a long element":    {Expected: 2, Accepted: [][]int{{1}, make([]int, 41)}},
		"no bytes":          {Expected: 2, Accepted: [][]int{{256}, {1}}},
		"no bytes below 0":  {Expected: 2, Accepted: [][]int{{1}, {3, -1}}},
	}
}

func TestReceiverConstants(t *testing.T) {
	got := []int{impl.VdAccept, impl.VdOld, impl.VdGap, impl.VdDamaged}
	checkEqual(t, "the verdicts", got, []int{0, 1, 2, 3})
}

func TestReceiverOk(t *testing.T) {
	for expected := range 16 {
		checkEqual(t, "ReceiverOk", impl.ReceiverOk(impl.Receiver{Expected: expected}), true)
	}
	checkEqual(t, "ReceiverOk with 1000 elements", impl.ReceiverOk(fullReceiver(1000)), true)
	checkEqual(t, "ReceiverOk with long elements", impl.ReceiverOk(impl.Receiver{Accepted: [][]int{nil, make([]int, 40)}}), true)
	for name, r := range badReceivers() {
		checkEqual(t, "ReceiverOk: "+name, impl.ReceiverOk(r), false)
	}
}

func TestInvalidReceivers(t *testing.T) {
	for name, r := range badReceivers() {
		for seq := range 16 {
			wire := impl.WireFrame(impl.Frame{Seq: seq, Bytes: []int{1}})
			checkEqual(t, "Judge: "+name, impl.Judge(r, wire), vdDamaged)
			got, verdict := impl.TakeFrame(r, wire)
			checkEqual(t, "TakeFrame's verdict: "+name, verdict, vdDamaged)
			checkEqual(t, "TakeFrame: "+name, got, r)
		}
		checkEqual(t, "AckOf: "+name, impl.AckOf(r), -1)
	}
}

func TestAckOf(t *testing.T) {
	for expected, want := range []int{15, 0, 1, 2, 3, 4, 5, 6, 7, 8, 9, 10, 11, 12, 13, 14} {
		checkEqual(t, "AckOf", impl.AckOf(impl.Receiver{Expected: expected}), want)
	}
	checkEqual(t, "AckOf a full receiver", impl.AckOf(fullReceiver(1000)), 1)
}

func TestWireFrame(t *testing.T) {
	n := numbers(9)
	for seq := range 16 {
		for size := range 38 {
			f := impl.Frame{Seq: seq, Bytes: n.bytes(size)}
			wire := impl.WireFrame(f)
			checkEqual(t, "WireFrame", wire, impl.AddCheck(append([]int{seq}, f.Bytes...)))
			checkEqual(t, "the length of WireFrame", len(wire), size+3)
			got, ok := impl.TakeWire(wire)
			checkEqual(t, "TakeWire's answer", ok, true)
			checkEqual(t, "TakeWire", got, f)
		}
	}
}

func TestFramesWithoutWire(t *testing.T) {
	for _, size := range []int{38, 39, 40, 41, 100} {
		checkEqual(t, "WireFrame of too many bytes", impl.WireFrame(impl.Frame{Bytes: make([]int, size)}), []int{})
	}
	for _, seq := range notSeqs() {
		checkEqual(t, "WireFrame of another number", impl.WireFrame(impl.Frame{Seq: seq, Bytes: []int{1}}), []int{})
	}
	for _, b := range notBytes() {
		checkEqual(t, "WireFrame of no bytes", impl.WireFrame(impl.Frame{Seq: 1, Bytes: []int{1, b}}), []int{})
	}
}

// wiresWithoutFrame are lists that no frame has.
func wiresWithoutFrame() [][]int {
	wire := impl.WireFrame(impl.Frame{Seq: 3, Bytes: []int{9, 8}})
	lists := [][]int{nil, {3}, {255, 255}, impl.AddCheck(nil), make([]int, 41)}
	for n := range wire {
		lists = append(lists, wire[:n])
		lists = append(lists, impl.FlipBit(wire, 8*n+n))
	}
	for seq := 16; seq < 256; seq++ {
		lists = append(lists, impl.AddCheck([]int{seq, 9}))
	}
	for _, b := range notBytes() {
		changed := slices.Clone(wire)
		changed[0] = b
		lists = append(lists, changed)
	}
	return lists
}

func TestWiresWithoutFrame(t *testing.T) {
	r := impl.Receiver{Expected: 3, Accepted: [][]int{{1}}}
	for _, wire := range wiresWithoutFrame() {
		f, ok := impl.TakeWire(wire)
		if ok {
			t.Errorf("TakeWire(%v) returns true", wire)
		}
		checkEqual(t, "TakeWire", f, impl.Frame{})
		checkEqual(t, "Judge", impl.Judge(r, wire), vdDamaged)
		got, verdict := impl.TakeFrame(r, wire)
		checkEqual(t, "TakeFrame's verdict", verdict, vdDamaged)
		checkEqual(t, "TakeFrame", got, r)
	}
}

func TestVerdicts(t *testing.T) {
	for expected := range 16 {
		for back := range 16 {
			want := vdGap
			if back == 0 {
				want = vdAccept
			} else if back <= 7 {
				want = vdOld
			}
			r := impl.Receiver{Expected: expected, Accepted: [][]int{{1, 2}, {}}}
			wire := impl.WireFrame(impl.Frame{Seq: (expected - back + 16) % 16, Bytes: []int{back}})
			checkEqual(t, "Judge", impl.Judge(r, wire), want)
			got, verdict := impl.TakeFrame(r, wire)
			checkEqual(t, "TakeFrame's verdict", verdict, want)
			if want == vdAccept {
				r = impl.Receiver{Expected: (expected + 1) % 16, Accepted: [][]int{{1, 2}, {}, {back}}}
			}
			checkEqual(t, "TakeFrame", got, r)
		}
	}
}

func TestFullReceiver(t *testing.T) {
	wire := impl.WireFrame(impl.Frame{Seq: 2, Bytes: []int{5}})
	for _, elements := range []int{998, 999, 1000} {
		r := fullReceiver(elements)
		checkEqual(t, "Judge", impl.Judge(r, wire), vdAccept)
		got, verdict := impl.TakeFrame(r, wire)
		if elements == 1000 {
			checkEqual(t, "the verdict of a full receiver", verdict, vdGap)
			checkEqual(t, "the full receiver", got, r)
			continue
		}
		checkEqual(t, "the verdict", verdict, vdAccept)
		checkEqual(t, "the elements", len(got.Accepted), elements+1)
		checkEqual(t, "the last element", got.Accepted[elements], []int{5})
		checkEqual(t, "Expected", got.Expected, 3)
	}
	r := fullReceiver(1000)
	old := impl.WireFrame(impl.Frame{Seq: 1})
	got, verdict := impl.TakeFrame(r, old)
	checkEqual(t, "the verdict on an old frame", verdict, vdOld)
	checkEqual(t, "the full receiver after an old frame", got, r)
}

// TestReceiverPromise is promise 9: a frame that is expected is taken once,
// even if it comes several times and others come in between.
func TestReceiverPromise(t *testing.T) {
	r := impl.Receiver{}
	var want [][]int
	for i := range 100 {
		wire := impl.WireFrame(impl.Frame{Seq: i % 16, Bytes: []int{i}})
		var verdict int
		r, verdict = impl.TakeFrame(r, wire)
		checkEqual(t, "the first verdict", verdict, vdAccept)
		want = append(want, []int{i})
		for back := range 7 {
			again := impl.WireFrame(impl.Frame{Seq: (i - back + 16) % 16, Bytes: []int{i}})
			r, verdict = impl.TakeFrame(r, again)
			checkEqual(t, "the verdict on a frame that comes again", verdict, vdOld)
		}
		r, verdict = impl.TakeFrame(r, impl.WireFrame(impl.Frame{Seq: (i + 2) % 16, Bytes: []int{i}}))
		checkEqual(t, "the verdict on a frame that comes too early", verdict, vdGap)
	}
	checkEqual(t, "what was accepted", r.Accepted, want)
}

func spareReceiver() impl.Receiver {
	accepted := make([][]int, 2, 5)
	accepted[0], accepted[1] = spareList(1, 2), spareList(3)
	return impl.Receiver{Expected: 3, Accepted: accepted}
}

func checkSpareReceiver(t *testing.T, r impl.Receiver) {
	t.Helper()
	checkSpare(t, "the first element", r.Accepted[0], 1, 2)
	checkSpare(t, "the second element", r.Accepted[1], 3)
	checkEqual(t, "what is behind the elements", r.Accepted[2:5], make([][]int, 3))
}

func overwriteLists(lists [][]int) {
	lists = lists[:cap(lists)]
	for i := range lists {
		overwrite(lists[i])
		lists[i] = []int{-99}
	}
}

func TestReceiverMemory(t *testing.T) {
	r := spareReceiver()
	bytes := spareList(9)
	wire := spareList(impl.WireFrame(impl.Frame{Seq: 3, Bytes: bytes})...)
	accepted, _ := impl.TakeFrame(r, wire)
	gap, _ := impl.TakeFrame(r, impl.WireFrame(impl.Frame{Seq: 4}))
	damaged, _ := impl.TakeFrame(r, nil)
	f, _ := impl.TakeWire(wire)
	overwrite(f.Bytes)
	for _, result := range []impl.Receiver{accepted, gap, damaged} {
		overwriteLists(result.Accepted)
		checkSpareReceiver(t, r)
	}
	checkSpare(t, "the wire", wire, impl.WireFrame(impl.Frame{Seq: 3, Bytes: []int{9}})...)
	overwrite(impl.WireFrame(impl.Frame{Seq: 3, Bytes: bytes}))
	checkSpare(t, "the bytes", bytes, 9)

	r.Expected = 16
	bad, _ := impl.TakeFrame(r, wire)
	overwriteLists(bad.Accepted)
	checkSpareReceiver(t, r)
}
