package tests

import (
	"math"
	"slices"
	"testing"

	"loop.example/g00986/impl"
)

// sampleSender is a valid sender with so many frames and so many ready.
func sampleSender(next int, frames int, ready int) impl.Sender {
	s := impl.Sender{Next: next, Ready: ready}
	for i := range frames {
		seq := (next - frames + i + 16) % 16
		s.Buffer = append(s.Buffer, impl.Frame{Seq: seq, Bytes: []int{seq, 100 + i}})
	}
	return s
}

// eachSender calls check with every valid sample.
func eachSender(check func(s impl.Sender)) {
	for next := range 16 {
		for frames := range 8 {
			for ready := range frames + 1 {
				check(sampleSender(next, frames, ready))
			}
		}
	}
}

// badSenders are senders that are not valid, each for one reason.
func badSenders() map[string]impl.Sender {
	bad := map[string]impl.Sender{
		"eight frames":   sampleSender(3, 8, 0),
		"sixteen frames": sampleSender(3, 16, 0),
		"Ready past end": sampleSender(3, 2, 3),
		"Ready below 0":  sampleSender(3, 2, -1),
		"Ready alone":    {Ready: 1},
		"Ready extreme":  {Ready: math.MaxInt},
		"Next past end":  {Next: 16},
		"Next below 0":   {Next: -1},
		"Next extreme":   {Next: math.MinInt},
	}
	change := func(name string, i int, f impl.Frame) {
		s := sampleSender(1, 3, 1)
		s.Buffer[i] = f
		bad[name] = s
	}
	change("first number", 0, impl.Frame{Seq: 13})
	change("middle number", 1, impl.Frame{Seq: 0})
	change("last number", 2, impl.Frame{Seq: 1})
	change("number past end", 1, impl.Frame{Seq: 31})
	change("number below 0", 1, impl.Frame{Seq: -1})
	change("long bytes", 0, impl.Frame{Seq: 14, Bytes: make([]int, 41)})
	change("no bytes", 2, impl.Frame{Seq: 0, Bytes: []int{256}})
	return bad
}

func TestSenderConstantsAndNewSender(t *testing.T) {
	checkEqual(t, "NewSender()", impl.NewSender(), impl.Sender{})
	checkEqual(t, "SenderOk of a new sender", impl.SenderOk(impl.NewSender()), true)
}

func TestSenderOk(t *testing.T) {
	eachSender(func(s impl.Sender) {
		checkEqual(t, "SenderOk", impl.SenderOk(s), true)
		if len(s.Buffer) == 0 {
			return
		}
		s.Next = impl.NextSeq(s.Next)
		checkEqual(t, "SenderOk with another Next", impl.SenderOk(s), false)
	})
	long := impl.Sender{Next: 1, Buffer: []impl.Frame{{Seq: 0, Bytes: make([]int, 40)}}}
	checkEqual(t, "SenderOk with 40 bytes", impl.SenderOk(long), true)
	for name, s := range badSenders() {
		checkEqual(t, "SenderOk: "+name, impl.SenderOk(s), false)
	}
}

func TestInvalidSendersStay(t *testing.T) {
	for name, s := range badSenders() {
		got, ok := impl.QueueFrame(s, []int{1})
		checkEqual(t, "QueueFrame: "+name, got, s)
		ready, f, taken := impl.TakeReady(s)
		checkEqual(t, "TakeReady: "+name, ready, s)
		checkEqual(t, "TakeReady's frame: "+name, f, impl.Frame{})
		if ok || taken {
			t.Errorf("%s: QueueFrame and TakeReady return %v, %v", name, ok, taken)
		}
		for seq := -1; seq <= 16; seq++ {
			after, ok := impl.TakeAck(s, seq)
			checkEqual(t, "TakeAck: "+name, after, s)
			checkEqual(t, "TakeAck's answer: "+name, ok, false)
		}
		checkEqual(t, "Replay: "+name, impl.Replay(s), s)
	}
}

func TestQueueFrame(t *testing.T) {
	eachSender(func(s impl.Sender) {
		got, ok := impl.QueueFrame(s, []int{7, 8, 9})
		if len(s.Buffer) == 7 {
			checkEqual(t, "QueueFrame's answer", ok, false)
			checkEqual(t, "QueueFrame of a full sender", got, s)
			return
		}
		want := impl.Sender{Next: (s.Next + 1) % 16, Ready: s.Ready}
		want.Buffer = append(slices.Clone(s.Buffer), impl.Frame{Seq: s.Next, Bytes: []int{7, 8, 9}})
		checkEqual(t, "QueueFrame's answer", ok, true)
		checkEqual(t, "QueueFrame", got, want)
		checkEqual(t, "SenderOk", impl.SenderOk(got), true)
	})
}

func TestQueueFrameBytes(t *testing.T) {
	s := sampleSender(15, 2, 1)
	for _, b := range notBytes() {
		got, ok := impl.QueueFrame(s, []int{0, b})
		checkEqual(t, "QueueFrame of no bytes", got, s)
		checkEqual(t, "QueueFrame of no bytes", ok, false)
	}
	for _, size := range []int{0, 1, 40, 41, 100} {
		got, ok := impl.QueueFrame(s, make([]int, size))
		checkEqual(t, "QueueFrame's answer", ok, size <= 40)
		checkEqual(t, "the frames", len(got.Buffer) == 3, size <= 40)
	}
}

func TestTakeReady(t *testing.T) {
	eachSender(func(s impl.Sender) {
		got, f, ok := impl.TakeReady(s)
		if s.Ready == len(s.Buffer) {
			checkEqual(t, "TakeReady's answer", ok, false)
			checkEqual(t, "TakeReady's frame", f, impl.Frame{})
			checkEqual(t, "TakeReady of nothing", got, s)
			return
		}
		want := s
		want.Ready++
		checkEqual(t, "TakeReady's answer", ok, true)
		checkEqual(t, "TakeReady's frame", f, s.Buffer[s.Ready])
		checkEqual(t, "TakeReady", got, want)
	})
}

func TestReplay(t *testing.T) {
	eachSender(func(s impl.Sender) {
		want := s
		want.Ready = 0
		checkEqual(t, "Replay", impl.Replay(s), want)
	})
}

func TestUnknownAcknowledgments(t *testing.T) {
	eachSender(func(s impl.Sender) {
		unknown := notSeqs()
		for seq := range 16 {
			if d := impl.SeqDistance(seq, s.Next); d == 0 || d > len(s.Buffer) {
				unknown = append(unknown, seq)
			}
		}
		for _, seq := range unknown {
			got, ok := impl.TakeAck(s, seq)
			if ok {
				t.Errorf("TakeAck(%+v, %d) returns true", s, seq)
			}
			checkEqual(t, "TakeAck of something unknown", got, s)
		}
	})
}

// TestSenderPromise is promise 8: an acknowledgment removes a beginning of the
// buffer.
func TestSenderPromise(t *testing.T) {
	eachSender(func(s impl.Sender) {
		for i, f := range s.Buffer {
			got, ok := impl.TakeAck(s, f.Seq)
			want := impl.Sender{Next: s.Next, Buffer: s.Buffer[i+1:], Ready: max(0, s.Ready-i-1)}
			checkEqual(t, "TakeAck's answer", ok, true)
			checkEqual(t, "TakeAck", got, want)
			checkEqual(t, "SenderOk", impl.SenderOk(got), true)
			again, ok := impl.TakeAck(got, f.Seq)
			checkEqual(t, "TakeAck's answer to the same again", ok, false)
			checkEqual(t, "TakeAck of the same again", again, got)
		}
	})
}

// spareSender has spare capacity everywhere; checkSpareSender checks that
// nothing of it was changed.
func spareSender() impl.Sender {
	buffer := make([]impl.Frame, 2, 5)
	buffer[0] = impl.Frame{Seq: 4, Bytes: spareList(1, 2)}
	buffer[1] = impl.Frame{Seq: 5, Bytes: spareList(3)}
	return impl.Sender{Next: 6, Buffer: buffer, Ready: 1}
}

func checkSpareSender(t *testing.T, what string, s impl.Sender) {
	t.Helper()
	checkSpare(t, what, s.Buffer[0].Bytes, 1, 2)
	checkSpare(t, what, s.Buffer[1].Bytes, 3)
	checkEqual(t, what+" behind the buffer", s.Buffer[2:5], make([]impl.Frame, 3))
	checkEqual(t, what+" and its numbers", []int{s.Buffer[0].Seq, s.Buffer[1].Seq}, []int{4, 5})
}

func overwriteSender(s impl.Sender) {
	frames := s.Buffer[:cap(s.Buffer)]
	for i := range frames {
		overwrite(frames[i].Bytes)
		frames[i] = impl.Frame{Seq: -99}
	}
}

func TestSenderMemory(t *testing.T) {
	s, list := spareSender(), spareList(8, 9)
	queued, _ := impl.QueueFrame(s, list)
	refused, _ := impl.QueueFrame(s, []int{-1})
	ready, f, _ := impl.TakeReady(s)
	acknowledged, _ := impl.TakeAck(s, 4)
	unknown, _ := impl.TakeAck(s, 6)
	overwrite(f.Bytes)
	checkEqual(t, "the sender after its frame was overwritten", ready.Buffer, s.Buffer)
	for _, result := range []impl.Sender{queued, refused, ready, acknowledged, unknown, impl.Replay(s)} {
		overwriteSender(result)
		checkSpareSender(t, "the sender", s)
	}
	checkSpare(t, "the list", list, 8, 9)

	s.Ready = 9
	_, _, _ = impl.TakeReady(s)
	bad, _ := impl.QueueFrame(s, list)
	overwriteSender(bad)
	overwriteSender(impl.Replay(s))
	checkSpareSender(t, "the invalid sender", s)
}
