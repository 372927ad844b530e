package tests

import (
	"math"
	"slices"
	"testing"

	"loop.example/g00986/impl"
)

const (
	laSend    = 1
	laDeliver = 2
	laLose    = 3
	laDamage  = 4
	laAnswer  = 5
	laTimeout = 6
	laQueue   = 7
)

// wireOf is a frame with this number and one byte, on the wire.
func wireOf(seq int, b int) []int {
	return impl.WireFrame(impl.Frame{Seq: seq, Bytes: []int{b}})
}

// sampleLink has three frames of which two are ready, two lists under way and
// two answers.
func sampleLink() impl.Link {
	return impl.Link{
		Sender:   sampleSender(1, 3, 2),
		Receiver: impl.Receiver{Expected: 14, Accepted: [][]int{{1, 2}, {3}}},
		Flight:   [][]int{wireOf(14, 5), wireOf(15, 6)},
		Answers:  []int{14, 113},
	}
}

// badLinks are links that are not valid, each for one reason.
func badLinks() map[string]impl.Link {
	bad := map[string]impl.Link{}
	for name, s := range badSenders() {
		l := sampleLink()
		l.Sender = s
		bad["sender: "+name] = l
	}
	for name, r := range badReceivers() {
		l := sampleLink()
		l.Receiver = r
		bad["receiver: "+name] = l
	}
	for name, flight := range map[string][][]int{
		"nine": make([][]int, 9), "long": {{1}, make([]int, 41)}, "no byte": {{1, 256}}, "below 0": {{-1}, {1}},
	} {
		l := sampleLink()
		l.Flight = flight
		bad["flight: "+name] = l
	}
	for _, answer := range []int{-1, 16, 50, 99, 116, 200, math.MinInt, math.MaxInt} {
		l := sampleLink()
		l.Answers = []int{0, answer, 1}
		bad["answer: "+impl.FormatInt(answer)] = l
	}
	l := sampleLink()
	l.Answers = make([]int, 9)
	bad["nine answers"] = l
	return bad
}

// checkStep checks what an act makes of a link. It must change it to want.
func checkStep(t *testing.T, l impl.Link, kind int, n int, want impl.Link) impl.Link {
	t.Helper()
	got, ok := impl.LinkStep(l, impl.LinkAct{Kind: kind, N: n})
	checkEqual(t, "LinkStep's answer", ok, true)
	checkEqual(t, "LinkStep", got, want)
	checkEqual(t, "LinkOk", impl.LinkOk(got), true)
	return got
}

func checkNoStep(t *testing.T, l impl.Link, kind int, n int) {
	t.Helper()
	got, ok := impl.LinkStep(l, impl.LinkAct{Kind: kind, N: n})
	checkEqual(t, "LinkStep's answer to what is not possible", ok, false)
	checkEqual(t, "LinkStep of what is not possible", got, l)
}

func TestLinkConstants(t *testing.T) {
	got := []int{
		impl.LaSend, impl.LaDeliver, impl.LaLose, impl.LaDamage, impl.LaAnswer, impl.LaTimeout, impl.LaQueue, impl.MaxFlight,
	}
	checkEqual(t, "the constants", got, []int{1, 2, 3, 4, 5, 6, 7, 8})
	checkEqual(t, "NewLink()", impl.NewLink(), impl.Link{})
}

func TestLinkOk(t *testing.T) {
	full := sampleLink()
	full.Flight = slices.Repeat([][]int{make([]int, 40)}, 8)
	full.Answers = []int{0, 1, 15, 100, 101, 114, 115, 7}
	for _, l := range []impl.Link{impl.NewLink(), sampleLink(), full} {
		checkEqual(t, "LinkOk", impl.LinkOk(l), true)
	}
	for name, l := range badLinks() {
		checkEqual(t, "LinkOk: "+name, impl.LinkOk(l), false)
	}
}

func TestInvalidLinksStay(t *testing.T) {
	for name, l := range badLinks() {
		for kind := laSend; kind <= laQueue; kind++ {
			got, ok := impl.LinkStep(l, impl.LinkAct{Kind: kind})
			checkEqual(t, "LinkStep's answer: "+name, ok, false)
			checkEqual(t, "LinkStep: "+name, got, l)
		}
		ran, n := impl.RunLink(l, []impl.LinkAct{{Kind: laTimeout}, {Kind: laQueue}})
		checkEqual(t, "RunLink's number: "+name, n, 0)
		checkEqual(t, "RunLink: "+name, ran, l)
		checkEqual(t, "DrainLink: "+name, impl.DrainLink(l), l)
	}
}

func TestUnknownActs(t *testing.T) {
	for _, kind := range []int{0, -1, 8, 9, math.MinInt, math.MaxInt} {
		checkNoStep(t, sampleLink(), kind, 0)
	}
}

func TestQueueAct(t *testing.T) {
	for n, bytes := range map[int][]int{0: {0, 0}, 5: {0, 5}, 258: {1, 2}, 65535: {255, 255}} {
		want := sampleLink()
		want.Sender.Buffer = append(want.Sender.Buffer, impl.Frame{Seq: 1, Bytes: bytes})
		want.Sender.Next = 2
		checkStep(t, sampleLink(), laQueue, n, want)
	}
	for _, n := range []int{-1, 65536, math.MinInt, math.MaxInt} {
		checkNoStep(t, sampleLink(), laQueue, n)
	}
	full := sampleLink()
	full.Sender = sampleSender(4, 7, 2)
	checkNoStep(t, full, laQueue, 1)
}

func TestSendAct(t *testing.T) {
	l := sampleLink()
	want := sampleLink()
	want.Sender.Ready = 3
	want.Flight = append(want.Flight, impl.WireFrame(l.Sender.Buffer[2]))
	all := checkStep(t, l, laSend, -5, want)
	checkNoStep(t, all, laSend, 0)

	l.Flight = slices.Repeat([][]int{wireOf(1, 1)}, 7)
	want.Flight = append(slices.Clone(l.Flight), impl.WireFrame(l.Sender.Buffer[2]))
	checkStep(t, l, laSend, 0, want)
	l.Flight = append(l.Flight, wireOf(1, 1))
	checkNoStep(t, l, laSend, 0)
}

func TestSendActOfAFrameWithoutWire(t *testing.T) {
	l := impl.Link{Sender: impl.Sender{Next: 1, Buffer: []impl.Frame{{Bytes: make([]int, 38)}}}}
	want := l
	want.Sender.Ready = 1
	want.Flight = [][]int{nil}
	sent := checkStep(t, l, laSend, 0, want)
	want.Flight, want.Answers = nil, []int{115}
	checkStep(t, sent, laDeliver, 0, want)
}

func TestDeliverAct(t *testing.T) {
	cases := []struct {
		wire   []int
		taken  bool
		answer int
	}{
		{wireOf(14, 5), true, 14},
		{wireOf(13, 5), false, 13},
		{wireOf(7, 5), false, 13},
		{wireOf(6, 5), false, 113},
		{wireOf(15, 5), false, 113},
		{impl.FlipBit(wireOf(14, 5), 1), false, 113},
		{nil, false, 113},
	}
	for _, c := range cases {
		for answers := range 9 {
			l := sampleLink()
			l.Flight[0] = c.wire
			l.Answers = slices.Repeat([]int{3}, answers)
			want := sampleLink()
			want.Flight = want.Flight[1:]
			want.Answers = l.Answers
			if answers < 8 {
				want.Answers = append(slices.Clone(l.Answers), c.answer)
			}
			if c.taken {
				want.Receiver.Expected = 15
				want.Receiver.Accepted = append(want.Receiver.Accepted, []int{5})
			}
			checkStep(t, l, laDeliver, 77, want)
		}
	}
	empty := sampleLink()
	empty.Flight = nil
	checkNoStep(t, empty, laDeliver, 0)
}

func TestDeliverToAFullReceiver(t *testing.T) {
	l := impl.Link{Receiver: fullReceiver(1000), Flight: [][]int{wireOf(2, 5), wireOf(1, 5)}}
	got, n := impl.RunLink(l, []impl.LinkAct{{Kind: laDeliver}, {Kind: laDeliver}})
	checkEqual(t, "the number of acts", n, 2)
	checkEqual(t, "the receiver", got.Receiver, l.Receiver)
	checkEqual(t, "the answers", got.Answers, []int{101, 1})
}

func TestLoseAct(t *testing.T) {
	l := sampleLink()
	l.Flight = [][]int{{1}, {2}, {3}}
	for n, flight := range [][][]int{{{2}, {3}}, {{1}, {3}}, {{1}, {2}}} {
		want := sampleLink()
		want.Flight = flight
		checkStep(t, l, laLose, n, want)
	}
	for _, n := range []int{-1, 3, 4, 8, math.MinInt, math.MaxInt} {
		checkNoStep(t, l, laLose, n)
	}
	l.Flight = nil
	checkNoStep(t, l, laLose, 0)
}

func TestDamageAct(t *testing.T) {
	l := sampleLink()
	l.Flight = [][]int{{1, 2}, {}, {255}}
	for bit := range 16 {
		want := sampleLink()
		want.Flight = [][]int{impl.FlipBit([]int{1, 2}, bit), {}, {255}}
		checkStep(t, l, laDamage, 8*bit, want)
		if bit < 8 {
			want.Flight = [][]int{{1, 2}, {}, impl.FlipBit([]int{255}, bit)}
			checkStep(t, l, laDamage, 8*bit+2, want)
		}
	}
	for _, n := range []int{-1, -8, 16 * 8, 8*8 + 2, 1, 9, 3, 7, 8 + 3, math.MinInt, math.MaxInt, math.MaxInt - 7} {
		checkNoStep(t, l, laDamage, n)
	}
	l.Flight = slices.Repeat([][]int{make([]int, 40)}, 8)
	want := sampleLink()
	want.Flight = slices.Clone(l.Flight)
	want.Flight[7] = impl.FlipBit(make([]int, 40), 319)
	checkStep(t, l, laDamage, 319*8+7, want)
	checkNoStep(t, l, laDamage, 320*8+7)
}

func TestAnswerAct(t *testing.T) {
	cases := []struct{ answer, removed, ready int }{
		{14, 1, 1}, {15, 2, 0}, {0, 3, 0}, {1, 0, 2}, {13, 0, 2}, {7, 0, 2},
		{114, 1, 0}, {115, 2, 0}, {100, 3, 0}, {101, 0, 0}, {113, 0, 0},
	}
	for _, c := range cases {
		l := sampleLink()
		l.Answers[0] = c.answer
		want := sampleLink()
		want.Sender.Buffer = want.Sender.Buffer[c.removed:]
		want.Sender.Ready = c.ready
		want.Answers = []int{113}
		checkStep(t, l, laAnswer, 3, want)
	}
	// The least answer that asks for the frames again, of a frame that is unknown.
	for answer, ready := range map[int]int{15: 2, 100: 0} {
		l := impl.Link{Sender: sampleSender(8, 3, 2), Answers: []int{answer}}
		checkStep(t, l, laAnswer, 0, impl.Link{Sender: sampleSender(8, 3, ready)})
	}
	empty := sampleLink()
	empty.Answers = nil
	checkNoStep(t, empty, laAnswer, 0)
}

func TestTimeoutAct(t *testing.T) {
	want := sampleLink()
	want.Sender.Ready = 0
	again := checkStep(t, sampleLink(), laTimeout, -1, want)
	checkStep(t, again, laTimeout, 0, want)
	checkStep(t, impl.NewLink(), laTimeout, 0, impl.NewLink())
}

func TestRunLink(t *testing.T) {
	acts := []impl.LinkAct{
		{Kind: laQueue, N: 258}, {Kind: laQueue, N: -1}, {Kind: laSend}, {Kind: laSend}, {Kind: 9}, {Kind: laDeliver},
	}
	l, n := impl.RunLink(impl.NewLink(), acts)
	want := impl.Link{
		Sender:   impl.Sender{Next: 1, Buffer: []impl.Frame{{Seq: 0, Bytes: []int{1, 2}}}, Ready: 1},
		Receiver: impl.Receiver{Expected: 1, Accepted: [][]int{{1, 2}}},
		Answers:  []int{0},
	}
	checkEqual(t, "RunLink's number", n, 3)
	checkEqual(t, "RunLink", l, want)
	for _, none := range [][]impl.LinkAct{nil, {{Kind: 0}}} {
		same, n := impl.RunLink(sampleLink(), none)
		checkEqual(t, "RunLink's number", n, 0)
		checkEqual(t, "RunLink of nothing", same, sampleLink())
	}
}

// TestRunLinkStepByStep compares RunLink with LinkStep.
func TestRunLinkStepByStep(t *testing.T) {
	n := numbers(101)
	for range 40 {
		acts := randomActs(&n, 120)
		l, done := impl.NewLink(), 0
		for _, a := range acts {
			next, ok := impl.LinkStep(l, a)
			if ok {
				done++
			}
			l = next
		}
		ran, number := impl.RunLink(impl.NewLink(), acts)
		checkEqual(t, "RunLink's number", number, done)
		checkEqual(t, "RunLink", ran, l)
	}
}

func TestRunLinkTakes400Acts(t *testing.T) {
	for _, size := range []int{399, 400, 401, 1000} {
		acts := slices.Repeat([]impl.LinkAct{{Kind: laTimeout}}, size)
		_, n := impl.RunLink(sampleLink(), acts)
		checkEqual(t, "RunLink's number", n, min(size, 400))

		// An act that fails counts among the 400, too.
		acts = slices.Repeat([]impl.LinkAct{{Kind: 0}}, size)
		acts[size-1].Kind = laTimeout
		l, _ := impl.RunLink(sampleLink(), acts)
		checkEqual(t, "whether the last act was performed", l.Sender.Ready == 0, size <= 400)
	}
}

func TestDrainLink(t *testing.T) {
	checkEqual(t, "DrainLink of a new link", impl.DrainLink(impl.NewLink()), impl.NewLink())
	// With nothing under way, not even the timeout is performed.
	idle := impl.Link{Sender: impl.Sender{Next: 5}, Receiver: impl.Receiver{Expected: 9, Accepted: [][]int{{1}}}}
	checkEqual(t, "DrainLink of an idle link", impl.DrainLink(idle), idle)

	l := sampleLink()
	l.Receiver.Expected, l.Flight = 14, nil
	want := impl.Link{Sender: impl.Sender{Next: 1}, Receiver: impl.Receiver{Expected: 1}}
	want.Receiver.Accepted = [][]int{{1, 2}, {3}, {14, 100}, {15, 101}, {0, 102}}
	checkEqual(t, "DrainLink", impl.DrainLink(l), want)

	for _, only := range []impl.Link{{Flight: [][]int{{1, 2}}}, {Answers: []int{3}}, {Answers: []int{100, 3}}} {
		checkEqual(t, "DrainLink of what leads to nothing", impl.DrainLink(only), impl.NewLink())
	}
}

func TestDrainLinkWithoutRoom(t *testing.T) {
	// The frames under way keep others from being sent, and the answers under
	// way keep others from being given.
	l := impl.Link{
		Sender:  sampleSender(7, 7, 7),
		Flight:  slices.Repeat([][]int{wireOf(0, 9)}, 8),
		Answers: slices.Repeat([]int{100}, 8),
	}
	want := impl.Link{Sender: impl.Sender{Next: 7}, Receiver: impl.Receiver{Expected: 7}}
	want.Receiver.Accepted = [][]int{{9}, {1, 101}, {2, 102}, {3, 103}, {4, 104}, {5, 105}, {6, 106}}
	checkEqual(t, "DrainLink", impl.DrainLink(l), want)
}

func TestDrainLinkThatNeverEnds(t *testing.T) {
	// The receiver is full, so that it asks for the frames again and again.
	l := impl.Link{Sender: sampleSender(4, 2, 2), Receiver: fullReceiver(1000)}
	got := impl.DrainLink(l)
	want := impl.Link{Sender: sampleSender(4, 2, 0), Receiver: fullReceiver(1000)}
	checkEqual(t, "DrainLink to a full receiver", got, want)
	checkEqual(t, "LinkOk", impl.LinkOk(got), true)
}

// randomActs are acts of all kinds, most of them possible. They damage a frame
// rarely enough that its checksum notices it.
func randomActs(n *numbers, size int) []impl.LinkAct {
	kinds := []int{laQueue, laQueue, laSend, laSend, laSend, laDeliver, laDeliver, laDeliver, laAnswer, laAnswer, laLose, laDamage, laTimeout}
	acts := make([]impl.LinkAct, size)
	for i := range acts {
		a := impl.LinkAct{Kind: kinds[n.below(len(kinds))]}
		switch a.Kind {
		case laQueue:
			a.N = n.below(65536)
		case laLose:
			a.N = n.below(4)
		case laDamage:
			a.N = n.below(320)
		}
		acts[i] = a
	}
	return acts
}

// TestLinkPromise is promise 10: what is accepted is at any time a beginning of
// what was queued, and in the end all of it.
func TestLinkPromise(t *testing.T) {
	n := numbers(10)
	lost, damaged, most := 0, 0, 0
	for range 60 {
		l := impl.NewLink()
		var queued [][]int
		for _, a := range randomActs(&n, 400) {
			next, ok := impl.LinkStep(l, a)
			if !ok {
				continue
			}
			switch a.Kind {
			case laQueue:
				queued = append(queued, []int{a.N / 256, a.N % 256})
			case laLose:
				lost++
			case laDamage:
				damaged++
			}
			l = next
			checkBeginning(t, l, queued)
		}
		most = max(most, len(queued))
		l = impl.DrainLink(l)
		checkEqual(t, "what was accepted in the end", l.Receiver.Accepted, queued)
		checkEqual(t, "what is left", []int{len(l.Sender.Buffer), len(l.Flight), len(l.Answers)}, []int{0, 0, 0})
	}
	if lost < 100 || damaged < 100 || most <= 32 {
		t.Errorf("only %d frames were lost, %d damaged, and at most %d queued", lost, damaged, most)
	}
}

func checkBeginning(t *testing.T, l impl.Link, queued [][]int) {
	t.Helper()
	accepted := l.Receiver.Accepted
	if !impl.LinkOk(l) || len(accepted) > len(queued) {
		t.Fatalf("the link is not valid or accepted %d of %d frames: %+v", len(accepted), len(queued), l)
	}
	checkEqual(t, "what was accepted", accepted, queued[:len(accepted)])
}

func TestLinkMemory(t *testing.T) {
	flight := make([][]int, 2, 5)
	flight[0], flight[1] = spareList(wireOf(3, 9)...), spareList(7)
	l := impl.Link{Sender: spareSender(), Receiver: spareReceiver(), Flight: flight, Answers: spareList(4, 100)}
	results := []impl.Link{impl.DrainLink(l)}
	for kind := 0; kind <= laQueue; kind++ {
		stepped, _ := impl.LinkStep(l, impl.LinkAct{Kind: kind})
		ran, _ := impl.RunLink(l, []impl.LinkAct{{Kind: kind}, {Kind: laSend}, {Kind: laDeliver}, {Kind: laQueue}})
		results = append(results, stepped, ran)
	}
	l.Answers[0] = 50
	bad, _ := impl.LinkStep(l, impl.LinkAct{Kind: laSend})
	results = append(results, bad, impl.DrainLink(l))
	for _, result := range results {
		overwriteSender(result.Sender)
		overwriteLists(result.Receiver.Accepted)
		overwriteLists(result.Flight)
		overwrite(result.Answers)
		checkSpareSender(t, "the sender", l.Sender)
		checkSpareReceiver(t, l.Receiver)
		checkSpare(t, "the first list", l.Flight[0], wireOf(3, 9)...)
		checkSpare(t, "the second list", l.Flight[1], 7)
		checkEqual(t, "what is behind the lists", l.Flight[2:5], make([][]int, 3))
		checkSpare(t, "the answers", l.Answers, 50, 100)
	}
}
