package tests

import (
	"math"
	"slices"
	"testing"

	"loop.example/g00986/impl"
)

const (
	gtOpen   = 0
	gtDone   = 1
	gtFailed = 2
)

// sampleGather has three of the ten words of a read.
func sampleGather() impl.Gather {
	return impl.Gather{From: 16, Tag: 3, Want: 10, Got: []int{5, 0, 65535}}
}

// sampleAnswer has the next words for the sample gathering.
func sampleAnswer(data ...int) impl.Packet {
	return impl.Packet{Kind: pkCompletion, From: 33, To: 16, Length: 7, Tag: 3, Data: data}
}

// badGathers are gatherings that are not valid, each for one reason.
func badGathers() []impl.Gather {
	var bad []impl.Gather
	change := func(change func(g *impl.Gather)) {
		g := sampleGather()
		change(&g)
		bad = append(bad, g)
	}
	for _, id := range notIds() {
		change(func(g *impl.Gather) { g.From = id })
	}
	for _, n := range []int{-1, math.MinInt, math.MaxInt} {
		change(func(g *impl.Gather) { g.Tag = n })
		change(func(g *impl.Gather) { g.Want = n })
		change(func(g *impl.Gather) { g.Got[1] = n })
		change(func(g *impl.Gather) { g.State = n })
	}
	change(func(g *impl.Gather) { g.Tag = 8 })
	change(func(g *impl.Gather) { g.Want = 65 })
	change(func(g *impl.Gather) { g.Want, g.Got = 65, words(65) })
	change(func(g *impl.Gather) { g.Want = 2 })
	change(func(g *impl.Gather) { g.Want = 0 })
	change(func(g *impl.Gather) { g.Got = words(11) })
	change(func(g *impl.Gather) { g.Got[0] = 65536 })
	change(func(g *impl.Gather) { g.Got[2] = 65536 })
	change(func(g *impl.Gather) { g.State = 3 })
	change(func(g *impl.Gather) { g.State = gtDone })
	change(func(g *impl.Gather) { g.State, g.Got = gtDone, words(9) })
	change(func(g *impl.Gather) { g.State, g.Got = gtDone, nil })
	return bad
}

func checkNotGathered(t *testing.T, g impl.Gather, p impl.Packet) {
	t.Helper()
	got, ok := impl.TakeAnswer(g, p)
	checkEqual(t, "TakeAnswer's answer", ok, false)
	checkEqual(t, "TakeAnswer of no reply", got, g)
	checkEqual(t, "GatherAll of no reply", impl.GatherAll(g, []impl.Packet{p, p}), g)
}

func checkGathered(t *testing.T, g impl.Gather, p impl.Packet, state int, words ...int) impl.Gather {
	t.Helper()
	want := g
	want.State, want.Got = state, words
	got, ok := impl.TakeAnswer(g, p)
	checkEqual(t, "TakeAnswer's answer", ok, true)
	checkEqual(t, "TakeAnswer", got, want)
	checkEqual(t, "GatherOk", impl.GatherOk(got), true)
	checkEqual(t, "GatherAll of one", impl.GatherAll(g, []impl.Packet{p}), want)
	return got
}

func TestNewGather(t *testing.T) {
	checkEqual(t, "constants", []int{impl.GtOpen, impl.GtDone, impl.GtFailed}, []int{gtOpen, gtDone, gtFailed})
	for _, p := range costlyPackets() {
		want, ok := map[int]int{pkRead: p.Length, pkConfigRead: 1, pkConfigWrite: 0}[p.Kind]
		got, is := impl.NewGather(p)
		checkEqual(t, "NewGather's answer", is, ok)
		if !ok {
			checkEqual(t, "NewGather of no request", got, impl.Gather{})
			continue
		}
		checkEqual(t, "NewGather", got, impl.Gather{From: p.From, Tag: p.Tag, Want: want})
		checkEqual(t, "GatherOk", impl.GatherOk(got), true)
	}
	for _, p := range append(badPackets(), impl.Packet{Kind: pkRead, Length: 65}, impl.Packet{Kind: pkConfigRead, Length: 1}) {
		got, ok := impl.NewGather(p)
		checkEqual(t, "NewGather's answer", ok, false)
		checkEqual(t, "NewGather of no packet", got, impl.Gather{})
	}
}

func TestGatherOk(t *testing.T) {
	done := impl.Gather{From: 255, Tag: 7, Want: 64, Got: words(64), State: gtDone}
	for _, g := range []impl.Gather{
		{}, sampleGather(), done, {State: gtDone}, {State: gtFailed}, {Want: 64},
		{Want: 10, Got: words(10)}, {Want: 10, Got: words(10), State: gtFailed}, {Want: 10, Got: words(3), State: gtFailed},
	} {
		if !impl.GatherOk(g) {
			t.Errorf("GatherOk(%+v) = false", g)
		}
	}
	for _, g := range badGathers() {
		if impl.GatherOk(g) {
			t.Errorf("GatherOk(%+v) = true", g)
		}
		checkNotGathered(t, g, sampleAnswer(1, 2))
		checkNotGathered(t, g, impl.Packet{Kind: pkCompletion, To: 16, Tag: 3, Status: 1})
	}
}

func TestTakeAnswer(t *testing.T) {
	g := checkGathered(t, sampleGather(), sampleAnswer(1, 2, 3, 4), gtOpen, 5, 0, 65535, 1, 2, 3, 4)
	p := sampleAnswer(6, 7)
	checkNotGathered(t, g, p)
	p.Length = 3
	g = checkGathered(t, g, p, gtOpen, 5, 0, 65535, 1, 2, 3, 4, 6, 7)
	p.Length, p.Data = 1, []int{0}
	g = checkGathered(t, g, p, gtDone, 5, 0, 65535, 1, 2, 3, 4, 6, 7, 0)
	checkNotGathered(t, g, p)
	all := sampleAnswer(1, 2, 3, 4, 5, 6, 7)
	checkGathered(t, sampleGather(), all, gtDone, 5, 0, 65535, 1, 2, 3, 4, 5, 6, 7)
	// A reply may have no words: then all is as before.
	checkGathered(t, sampleGather(), sampleAnswer(), gtOpen, 5, 0, 65535)
}

func TestRefusedGathers(t *testing.T) {
	for _, status := range []int{1, 2} {
		for _, length := range []int{0, 7, 3, 64} {
			p := sampleAnswer()
			p.Status, p.Length = status, length
			failed := checkGathered(t, sampleGather(), p, gtFailed, 5, 0, 65535)
			checkNotGathered(t, failed, p)
			checkNotGathered(t, failed, sampleAnswer(1, 2))
		}
	}
}

// TestRequestsForOtherWords want one word or none.
func TestRequestsForOtherWords(t *testing.T) {
	g, _ := impl.NewGather(fullPacket(pkConfigWrite))
	p := impl.Packet{Kind: pkCompletion, From: 33, To: g.From, Tag: g.Tag}
	checkGathered(t, g, p, gtDone)
	p.Length = 1
	checkNotGathered(t, g, p)
	g, _ = impl.NewGather(fullPacket(pkConfigRead))
	checkGathered(t, g, p, gtOpen)
	p.Data = []int{77}
	checkGathered(t, g, p, gtDone, 77)
	p.Length, p.Data = 0, nil
	checkNotGathered(t, g, p)
}

func TestOtherPackets(t *testing.T) {
	for _, change := range []func(p *impl.Packet){
		func(p *impl.Packet) { p.To++ }, func(p *impl.Packet) { p.Tag++ }, func(p *impl.Packet) { p.To, p.From = p.From, p.To },
		func(p *impl.Packet) { p.Length = 8 }, func(p *impl.Packet) { p.Length = 6 }, func(p *impl.Packet) { p.Length = 2 },
		func(p *impl.Packet) { p.Length = 10 }, func(p *impl.Packet) { p.Length = 0 }, func(p *impl.Packet) { p.Length = -7 },
		func(p *impl.Packet) { p.Kind = pkRead }, func(p *impl.Packet) { p.Kind = 7 }, func(p *impl.Packet) { p.Address = 1 },
		func(p *impl.Packet) { p.Data[0] = 65536 }, func(p *impl.Packet) { p.Data = words(8) },
		func(p *impl.Packet) { p.From = 256 }, func(p *impl.Packet) { p.Status = 3 }, func(p *impl.Packet) { p.Status = -1 },
		func(p *impl.Packet) { p.Status = 1 }, // with data
		func(p *impl.Packet) { p.Status, p.Data, p.To = 1, nil, 17 }, func(p *impl.Packet) { p.Status, p.Data, p.Tag = 1, nil, 2 },
	} {
		p := sampleAnswer(1, 2)
		change(&p)
		checkNotGathered(t, sampleGather(), p)
	}
	for kind := pkWrite; kind <= pkConfigWrite; kind++ {
		p := fullPacket(kind)
		g := impl.Gather{From: p.To, Tag: p.Tag, Want: p.Length + 10}
		checkNotGathered(t, g, p)
		g.Want = p.Length
		checkNotGathered(t, g, p)
	}
}

// TestRepliesThatComeTwice are taken once.
func TestRepliesThatComeTwice(t *testing.T) {
	read := fullPacket(pkRead)
	for _, payload := range []int{1, 2, 4, 8} {
		g, _ := impl.NewGather(read)
		twice := g
		var list []impl.Packet
		for _, p := range impl.AnswersTo(read, 33, words(10), payload) {
			list = append(list, p, p)
			next, ok := impl.TakeAnswer(twice, p)
			checkEqual(t, "TakeAnswer's answer", ok, true)
			checkNotGathered(t, next, p)
			twice = next
		}
		want := impl.Gather{From: 16, Tag: 3, Want: 10, Got: words(10), State: gtDone}
		checkEqual(t, "the gathering", twice, want)
		checkEqual(t, "GatherAll", impl.GatherAll(g, list), want)
		checkEqual(t, "GatherAll", impl.GatherAll(g, append(list, list...)), want)
		// In the reverse order, only the first reply has the right Length.
		slices.Reverse(list)
		want.Got = list[len(list)-1].Data
		if want.State = gtOpen; len(want.Got) == 10 {
			want.State = gtDone
		}
		checkEqual(t, "GatherAll in the reverse order", impl.GatherAll(g, list), want)
	}
}

// TestGatherPromise is promise 27: all replies together give the data. Other
// packets between them do not matter.
func TestGatherPromise(t *testing.T) {
	n := numbers(27)
	for range 1000 {
		read := randomPacket(&n, pkRead)
		var data []int
		for range read.Length {
			data = append(data, n.below(65536))
		}
		g, _ := impl.NewGather(read)
		var list []impl.Packet
		for _, p := range impl.AnswersTo(read, n.below(256), data, 1<<n.below(4)) {
			other := p
			other.Tag = (p.Tag + 1 + n.below(7)) % 8
			between := []impl.Packet{other, randomPacket(&n, 1+n.below(5)), {}}
			list = append(list, between[n.below(3)], p)
		}
		got := impl.GatherAll(g, list)
		checkEqual(t, "the gathering", got, impl.Gather{From: read.From, Tag: read.Tag, Want: read.Length, Got: data, State: gtDone})
		lost := n.below(len(list)/2)*2 + 1
		got = impl.GatherAll(g, slices.Delete(slices.Clone(list), lost, lost+1))
		if got.State != gtOpen || len(got.Got) >= read.Length || !slices.Equal(got.Got, data[:len(got.Got)]) {
			t.Errorf("without reply %d, the gathering is %+v", lost, got)
		}
	}
	g := sampleGather()
	checkEqual(t, "GatherAll of nothing", impl.GatherAll(g, nil), g)
}

func TestGatherMemory(t *testing.T) {
	for _, tag := range []int{3, 4, 9} {
		g := impl.Gather{From: 16, Tag: tag, Want: 10, Got: spareList(5, 0, 6)}
		data := spareList(1, 2)
		p := sampleAnswer()
		p.Data = data
		taken, _ := impl.TakeAnswer(g, p)
		all := impl.GatherAll(g, []impl.Packet{p, p})
		none := impl.GatherAll(g, nil)
		for _, result := range []impl.Gather{taken, all, none} {
			overwrite(result.Got)
			checkSpare(t, "what was there", g.Got, 5, 0, 6)
			checkSpare(t, "the data", data, 1, 2)
		}
	}
}
