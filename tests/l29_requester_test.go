package tests

import (
	"math"
	"slices"
	"testing"

	"loop.example/g00986/impl"
)

// sampleRequester waits for three reads, the first of which has the tag 5, and
// has two reads that ended.
func sampleRequester() impl.Requester {
	return impl.Requester{
		Id:   16,
		Tags: busyTags(1<<5 | 1<<0 | 1<<3),
		Open: []impl.Waiting{
			{Gather: impl.Gather{From: 16, Tag: 5, Want: 4}, Age: 30},
			{Gather: impl.Gather{From: 16, Tag: 0, Want: 10, Got: []int{7, 8}}, Age: 50},
			{Gather: impl.Gather{From: 16, Tag: 3, Want: 2, Got: []int{9}}, Age: 0},
		},
		Ended: []impl.Gather{
			{From: 16, Tag: 5, Want: 1, Got: []int{1}, State: gtDone},
			{From: 16, Tag: 1, Want: 9, Got: []int{2, 3}, State: gtFailed},
		},
	}
}

// endedTimes is the sample requester with so many reads that ended.
func endedTimes(size int) impl.Requester {
	r := sampleRequester()
	r.Ended = slices.Repeat(r.Ended[1:], size)
	return r
}

// answerFor is a reply to the sample requester.
func answerFor(tag int, length int, data ...int) impl.Packet {
	return impl.Packet{Kind: pkCompletion, From: 33, To: 16, Tag: tag, Length: length, Data: data}
}

// badRequesters are requesters that are not valid, each for one reason.
func badRequesters() []impl.Requester {
	var bad []impl.Requester
	change := func(change func(r *impl.Requester)) {
		r := sampleRequester()
		change(&r)
		bad = append(bad, r)
	}
	for _, id := range append(notIds(), 15, 17) {
		change(func(r *impl.Requester) { r.Id = id })
	}
	for _, id := range notIds() {
		bad = append(bad, impl.NewRequester(id))
	}
	for _, tags := range badTags() {
		change(func(r *impl.Requester) { r.Tags = tags })
	}
	for _, tag := range []int{0, 3, 5, 1, 7} {
		change(func(r *impl.Requester) { r.Tags.Busy[tag] = !r.Tags.Busy[tag] })
	}
	for i := range 3 {
		change(func(r *impl.Requester) { r.Open = slices.Delete(r.Open, i, i+1) })
		for _, age := range []int{-1, 51, math.MinInt, math.MaxInt} {
			change(func(r *impl.Requester) { r.Open[i].Age = age })
		}
		for _, g := range append(badGathers(), impl.Gather{From: 17, Tag: 5, Want: 4}, impl.Gather{From: 16, Tag: 4}, impl.Gather{From: 16, Tag: 8}) {
			change(func(r *impl.Requester) { r.Open[i].Gather = g })
		}
		change(func(r *impl.Requester) { r.Open[i].Gather.State = gtFailed })
		change(func(r *impl.Requester) { r.Open[i].Gather.Tag = r.Open[(i+1)%3].Gather.Tag })
		change(func(r *impl.Requester) { r.Open = append(r.Open, r.Open[i]) })
	}
	change(func(r *impl.Requester) { r.Open[2].Gather = r.Ended[0] })
	for _, g := range badGathers() {
		change(func(r *impl.Requester) { r.Ended[0] = g })
		change(func(r *impl.Requester) { r.Ended = append(r.Ended, g) })
	}
	return append(bad, endedTimes(1001), impl.Requester{})
}

func checkNotBegun(t *testing.T, r impl.Requester, address int, length int) {
	t.Helper()
	got, p, ok := impl.BeginRead(r, address, length)
	checkEqual(t, "BeginRead's answer", ok, false)
	checkEqual(t, "BeginRead's packet", p, impl.Packet{})
	checkEqual(t, "BeginRead that is not possible", got, r)
}

func checkNotHandled(t *testing.T, r impl.Requester, p impl.Packet) {
	t.Helper()
	got, ok := impl.HandleAnswer(r, p)
	checkEqual(t, "HandleAnswer's answer", ok, false)
	checkEqual(t, "HandleAnswer of no reply", got, r)
}

func checkHandled(t *testing.T, r impl.Requester, p impl.Packet, want impl.Requester) {
	t.Helper()
	got, ok := impl.HandleAnswer(r, p)
	checkEqual(t, "HandleAnswer's answer", ok, true)
	checkEqual(t, "HandleAnswer", got, want)
	checkEqual(t, "RequesterOk", impl.RequesterOk(got), true)
}

func checkPassed(t *testing.T, r impl.Requester, steps int, want impl.Requester) {
	t.Helper()
	got := impl.PassTime(r, steps)
	checkEqual(t, "PassTime", got, want)
	checkEqual(t, "RequesterOk", impl.RequesterOk(got), true)
}

func TestNewRequester(t *testing.T) {
	checkEqual(t, "MaxWait", impl.MaxWait, 50)
	for _, id := range append(notIds(), 0, 16, 255) {
		got := impl.NewRequester(id)
		checkEqual(t, "NewRequester", got, impl.Requester{Id: id, Tags: busyTags(0)})
		checkEqual(t, "RequesterOk", impl.RequesterOk(got), impl.IsId(id))
	}
}

func TestRequesterOk(t *testing.T) {
	checkEqual(t, "RequesterOk", impl.RequesterOk(sampleRequester()), true)
	checkEqual(t, "RequesterOk", impl.RequesterOk(endedTimes(1000)), true)
	// What ended may be any gathering, also of another id, or an open one.
	r := sampleRequester()
	r.Ended = append(r.Ended, impl.Gather{From: 99, Want: 3}, impl.Gather{From: 16, Tag: 5, Want: 4})
	checkEqual(t, "RequesterOk", impl.RequesterOk(r), true)
	for _, r := range badRequesters() {
		if impl.RequesterOk(r) {
			t.Errorf("RequesterOk(%+v) = true", r)
		}
	}
}

func TestInvalidRequestersStay(t *testing.T) {
	for _, r := range badRequesters() {
		checkNotBegun(t, r, 6, 10)
		checkNotHandled(t, r, answerFor(0, 8, 1))
		checkNotHandled(t, r, answerFor(5, 4, 1))
		for _, steps := range []int{0, 1, 50} {
			checkEqual(t, "PassTime", impl.PassTime(r, steps), r)
		}
	}
}

func TestBeginRead(t *testing.T) {
	for _, c := range []struct{ address, length int }{{6, 10}, {0, 1}, {65535, 1}, {65472, 64}} {
		want := sampleRequester()
		want.Tags = busyTags(1<<5 | 1<<0 | 1<<3 | 1<<1)
		want.Open = append(want.Open, impl.Waiting{Gather: impl.Gather{From: 16, Tag: 1, Want: c.length}})
		got, p, ok := impl.BeginRead(sampleRequester(), c.address, c.length)
		checkEqual(t, "BeginRead's answer", ok, true)
		checkEqual(t, "BeginRead's packet", p, impl.Packet{Kind: pkRead, From: 16, Address: c.address, Length: c.length, Tag: 1})
		checkEqual(t, "BeginRead", got, want)
		checkEqual(t, "RequesterOk", impl.RequesterOk(got), true)
	}
	for _, c := range []struct{ address, length int }{
		{6, 0}, {6, 65}, {6, -1}, {-1, 10}, {65536, 1}, {65535, 2}, {65473, 64},
		{math.MinInt, 1}, {math.MaxInt, 1}, {6, math.MinInt}, {6, math.MaxInt},
	} {
		checkNotBegun(t, sampleRequester(), c.address, c.length)
	}
}

// TestEightReads are open at the same time; a ninth one has no tag.
func TestEightReads(t *testing.T) {
	r := impl.NewRequester(16)
	for tag := range 8 {
		next, p, ok := impl.BeginRead(r, 100+tag, 1)
		checkEqual(t, "BeginRead's answer", ok, true)
		checkEqual(t, "the tag", p.Tag, tag)
		r = next
	}
	checkNotBegun(t, r, 6, 10)
	r, ok := impl.HandleAnswer(r, answerFor(6, 1, 77))
	checkEqual(t, "HandleAnswer's answer", ok, true)
	r, p, ok := impl.BeginRead(r, 100, 1)
	checkEqual(t, "BeginRead's answer", ok, true)
	checkEqual(t, "the tag", p.Tag, 6)
	checkEqual(t, "the tag of the last open read", r.Open[7].Gather.Tag, 6)
	checkNotBegun(t, r, 6, 10)
}

func TestHandleAnswer(t *testing.T) {
	want := sampleRequester()
	want.Open[1].Gather.Got = []int{7, 8, 4, 5}
	checkHandled(t, sampleRequester(), answerFor(0, 8, 4, 5), want)
	checkHandled(t, sampleRequester(), answerFor(0, 8), sampleRequester())

	want = sampleRequester()
	want.Open = slices.Delete(want.Open, 1, 2)
	want.Ended = append(want.Ended, impl.Gather{From: 16, Tag: 0, Want: 10, Got: append([]int{7, 8}, words(8)...), State: gtDone})
	want.Tags = busyTags(1<<5 | 1<<3)
	checkHandled(t, sampleRequester(), answerFor(0, 8, words(8)...), want)

	refusal := answerFor(5, 0)
	refusal.Status = 2
	want = sampleRequester()
	want.Open = want.Open[1:]
	want.Ended = append(want.Ended, impl.Gather{From: 16, Tag: 5, Want: 4, State: gtFailed})
	want.Tags = busyTags(1<<0 | 1<<3)
	checkHandled(t, sampleRequester(), refusal, want)
}

func TestPacketsThatAreNotHandled(t *testing.T) {
	for _, tag := range []int{1, 2, 7, 8, -1, math.MaxInt} {
		checkNotHandled(t, sampleRequester(), answerFor(tag, 8, 1))
	}
	checkNotHandled(t, sampleRequester(), answerFor(0, 7, 1))
	checkNotHandled(t, sampleRequester(), answerFor(5, 8, 1))
	other := answerFor(0, 8, 1)
	other.To = 17
	checkNotHandled(t, sampleRequester(), other)
	for _, p := range append(badPackets(), sampleRead(0), impl.Packet{Kind: pkWrite, Data: []int{1}}, answerFor(0, 8, 65536)) {
		checkNotHandled(t, sampleRequester(), p)
	}
}

func sampleRead(tag int) impl.Packet {
	return impl.Packet{Kind: pkRead, From: 16, Address: 6, Length: 8, Tag: tag}
}

// TestAThousandEnded leave no room for a further one, nor for an answer of any
// kind.
func TestAThousandEnded(t *testing.T) {
	checkNotHandled(t, endedTimes(1000), answerFor(5, 4, words(4)...))
	checkNotHandled(t, endedTimes(1000), answerFor(5, 4, 1))
	full := endedTimes(1000)
	got, ok := impl.HandleAnswer(endedTimes(999), answerFor(5, 4, words(4)...))
	checkEqual(t, "HandleAnswer's answer", ok, true)
	checkEqual(t, "the number of reads that ended", len(got.Ended), 1000)
	got, _, ok = impl.BeginRead(full, 6, 10)
	checkEqual(t, "BeginRead's answer", ok, true)
	checkEqual(t, "the number of open reads", len(got.Open), 4)

	// One read, two or all of them wait too long, or none.
	checkEqual(t, "PassTime", impl.PassTime(full, 1), full)
	checkEqual(t, "PassTime", impl.PassTime(endedTimes(999), 21), endedTimes(999))
	checkEqual(t, "PassTime", len(impl.PassTime(endedTimes(999), 20).Ended), 1000)
	checkEqual(t, "PassTime", len(impl.PassTime(endedTimes(998), 21).Ended), 1000)
	full.Open[1].Age = 10
	later := impl.PassTime(full, 20)
	checkEqual(t, "the ages", []int{later.Open[0].Age, later.Open[1].Age, later.Open[2].Age}, []int{50, 30, 20})
	checkEqual(t, "PassTime", impl.PassTime(full, 21), full)
}

func TestPassTime(t *testing.T) {
	checkPassed(t, sampleRequester(), 0, sampleRequester())
	want := sampleRequester()
	want.Ended = append(want.Ended, want.Open[1].Gather)
	want.Ended[2].State = gtFailed
	want.Open = slices.Delete(want.Open, 1, 2)
	want.Open[0].Age, want.Open[1].Age = 31, 1
	want.Tags = busyTags(1<<5 | 1<<3)
	checkPassed(t, sampleRequester(), 1, want)
	want.Open[0].Age, want.Open[1].Age = 50, 20
	checkPassed(t, sampleRequester(), 20, want)

	// Those that wait too long end in the order of Open.
	want = sampleRequester()
	want.Ended = append(want.Ended, want.Open[0].Gather, want.Open[1].Gather)
	want.Ended[2].State, want.Ended[3].State = gtFailed, gtFailed
	want.Open = want.Open[2:]
	want.Open[0].Age = 50
	want.Tags = busyTags(1 << 3)
	checkPassed(t, sampleRequester(), 50, want)
	want.Ended = append(want.Ended, impl.Gather{From: 16, Tag: 3, Want: 2, Got: []int{9}, State: gtFailed})
	want.Open, want.Tags = nil, busyTags(0)
	checkPassed(t, impl.PassTime(sampleRequester(), 50), 1, want)
	for _, steps := range []int{-1, 51, 100, math.MinInt, math.MaxInt} {
		checkEqual(t, "PassTime", impl.PassTime(sampleRequester(), steps), sampleRequester())
	}
}

// TestReadsThatWaitTooLong fail after more than 50 steps; replies that come
// later find nothing, and a reply in time does not make a read younger.
func TestReadsThatWaitTooLong(t *testing.T) {
	r, p, _ := impl.BeginRead(impl.NewRequester(16), 6, 10)
	answers := impl.AnswersTo(p, 33, words(10), 8)
	r = impl.PassTime(impl.PassTime(r, 20), 30)
	checkEqual(t, "the age", r.Open[0].Age, 50)
	r, _ = impl.HandleAnswer(r, answers[0])
	checkEqual(t, "the age after a reply", r.Open[0].Age, 50)
	done, ok := impl.HandleAnswer(r, answers[1])
	checkEqual(t, "HandleAnswer's answer", ok, true)
	checkEqual(t, "what ended", done.Ended, []impl.Gather{{From: 16, Want: 10, Got: words(10), State: gtDone}})

	late := impl.PassTime(r, 1)
	want := impl.NewRequester(16)
	want.Ended = []impl.Gather{{From: 16, Want: 10, Got: words(10)[:2], State: gtFailed}}
	checkEqual(t, "PassTime", late, want)
	checkNotHandled(t, late, answers[1])
	// The tag is used again: then the late reply has the wrong Length.
	again, p, _ := impl.BeginRead(late, 6, 10)
	checkEqual(t, "the tag", p.Tag, 0)
	checkNotHandled(t, again, answers[1])
}

// TestRequesterPromise is promise 29: a read that was begun is ended by its
// replies. Several reads are open at the same time, and their replies come in
// any order, but those to one read in theirs.
func TestRequesterPromise(t *testing.T) {
	n := numbers(29)
	failed := 0
	for range 60 {
		r := impl.NewRequester(n.below(256))
		var coming [8][]impl.Packet
		var want [8]impl.Gather
		var ended []impl.Gather
		for range 60 {
			tag := n.below(8)
			switch {
			case len(coming[tag]) > 0:
				p := coming[tag][0]
				coming[tag] = coming[tag][1:]
				next, ok := impl.HandleAnswer(r, p)
				checkEqual(t, "HandleAnswer's answer", ok, true)
				if r = next; len(coming[tag]) == 0 {
					ended = append(ended, want[tag])
				}
			case impl.CountBusy(r.Tags) < 8:
				length := 1 + n.below(30)
				next, p, ok := impl.BeginRead(r, n.below(1000), length)
				checkEqual(t, "BeginRead's answer", ok, true)
				r, tag = next, p.Tag
				want[tag] = impl.Gather{From: r.Id, Tag: tag, Want: length, Got: words(length), State: gtDone}
				coming[tag] = impl.AnswersTo(p, n.below(256), words(length), 1<<n.below(4))
				if n.below(6) == 0 {
					refusal, _ := impl.RefusalOf(p, 33, 1)
					coming[tag] = []impl.Packet{refusal}
					want[tag].Got, want[tag].State = nil, gtFailed
					failed++
				}
			}
			checkEqual(t, "RequesterOk", impl.RequesterOk(r), true)
			checkEqual(t, "what ended", r.Ended, ended)
			for tag, list := range coming {
				checkEqual(t, "whether the tag is busy", r.Tags.Busy[tag], len(list) > 0)
			}
		}
	}
	if failed < 50 {
		t.Errorf("only %d reads were refused", failed)
	}
}

// TestEveryReadEnds: by its replies, or because it waits too long.
func TestEveryReadEnds(t *testing.T) {
	n := numbers(129)
	for range 100 {
		r := impl.NewRequester(7)
		begun := 0
		for range 40 {
			switch n.below(3) {
			case 0:
				next, _, ok := impl.BeginRead(r, 6, 1+n.below(3))
				if r = next; ok {
					begun++
				}
			case 1:
				p := impl.Packet{Kind: pkCompletion, To: 7, Tag: n.below(8), Length: 1 + n.below(3), Data: []int{5}}
				r, _ = impl.HandleAnswer(r, p)
			case 2:
				r = impl.PassTime(r, n.below(20))
			}
			checkEqual(t, "RequesterOk", impl.RequesterOk(r), true)
			checkEqual(t, "the number of reads", len(r.Open)+len(r.Ended), begun)
		}
		r = impl.PassTime(impl.PassTime(r, 50), 1)
		checkEqual(t, "the number of reads that ended", len(r.Ended), begun)
		checkEqual(t, "the tags", r.Tags, impl.NewTags())
	}
}

func TestRequesterMemory(t *testing.T) {
	given := func(ended int) (impl.Requester, [][]int, []impl.Waiting, []impl.Gather, []bool) {
		got, gone, busy := spareList(1, 2), spareList(3), append(busyTags(1).Busy, false, true)
		open := []impl.Waiting{{Gather: impl.Gather{From: 16, Want: 9, Got: got}, Age: 50}, {Age: 77}}
		done := append(slices.Repeat([]impl.Gather{{Want: 1, Got: gone, State: gtDone}}, ended), impl.Gather{Want: 77})
		r := impl.Requester{Id: 16, Tags: impl.Tags{Busy: busy[:8]}, Open: open[:1], Ended: done[:ended]}
		return r, [][]int{got, gone}, open, done, busy
	}
	// With 1001 reads that ended, the requester is not valid.
	for _, ended := range []int{2, 1001} {
		r, lists, open, done, busy := given(ended)
		data := spareList(4, 5)
		p := answerFor(0, 7)
		p.Data = data
		begun, _, _ := impl.BeginRead(r, 6, 10)
		notBegun, _, _ := impl.BeginRead(r, 6, 0)
		handled, _ := impl.HandleAnswer(r, p)
		notHandled, _ := impl.HandleAnswer(r, answerFor(7, 7))
		p.Data, p.Status = nil, 1
		refused, _ := impl.HandleAnswer(r, p)
		for _, result := range []impl.Requester{begun, notBegun, handled, notHandled, refused, impl.PassTime(r, 0), impl.PassTime(r, 1)} {
			overwriteRequester(t, result)
			checkSpare(t, "the words of the open read", lists[0], 1, 2)
			checkSpare(t, "the words of the read that ended", lists[1], 3)
			checkSpare(t, "the data", data, 4, 5)
			checkEqual(t, "the open reads with what is behind them", []int{open[0].Age, open[0].Gather.State, open[1].Age, done[ended].Want, done[0].Want}, []int{50, 0, 77, 77, 1})
			checkEqual(t, "the tags with what is behind them", busy, append(busyTags(1).Busy, false, true))
		}
	}
}

// overwriteRequester checks that no two lists of a requester share memory, and
// changes all of it.
func overwriteRequester(t *testing.T, r impl.Requester) {
	t.Helper()
	var lists [][]int
	for _, w := range r.Open[:cap(r.Open)] {
		lists = append(lists, w.Gather.Got)
	}
	for _, g := range r.Ended[:min(len(r.Ended), 5)] {
		lists = append(lists, g.Got)
	}
	checkApart(t, "the words of a read", lists)
	for i := range r.Open[:cap(r.Open)] {
		r.Open[:cap(r.Open)][i] = impl.Waiting{Age: -99}
	}
	for i := range r.Ended[:cap(r.Ended)] {
		r.Ended[:cap(r.Ended)][i] = impl.Gather{Want: -99}
	}
	for i := range r.Tags.Busy[:cap(r.Tags.Busy)] {
		r.Tags.Busy[:cap(r.Tags.Busy)][i] = true
	}
}
