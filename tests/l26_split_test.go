package tests

import (
	"math"
	"slices"
	"testing"

	"loop.example/g00986/impl"
)

func notPayloads() []int {
	return []int{0, -1, 3, 5, 6, 7, 9, 16, 32, -8, math.MinInt, math.MaxInt}
}

// pieces puts the words of a range into blocks, word by word.
func pieces(address int, length int, payload int) []impl.Piece {
	var list []impl.Piece
	for a := address; a < address+length; a++ {
		if a == address || a%payload == 0 {
			list = append(list, impl.Piece{Address: a})
		}
		list[len(list)-1].Length++
	}
	return list
}

func checkPieces(t *testing.T, address int, length int, payload int, want []impl.Piece) {
	t.Helper()
	got, count := impl.SplitRange(address, length, payload), impl.PieceCount(address, length, payload)
	if !slices.Equal(got, want) || count != len(want) {
		t.Errorf("SplitRange(%d, %d, %d) = %v with %d pieces, want %v", address, length, payload, got, count, want)
	}
}

func checkNoAnswers(t *testing.T, p impl.Packet, by int, data []int, payload int) {
	t.Helper()
	if answers := impl.AnswersTo(p, by, data, payload); answers != nil {
		t.Errorf("AnswersTo(%+v, %d, %v, %d) = %+v, want nil", p, by, data, payload, answers)
	}
}

func checkNoRefusal(t *testing.T, p impl.Packet, by int, status int) {
	t.Helper()
	refusal, ok := impl.RefusalOf(p, by, status)
	checkEqual(t, "RefusalOf's answer", ok, false)
	checkEqual(t, "RefusalOf no request", refusal, impl.Packet{})
}

func TestIsPayload(t *testing.T) {
	for _, n := range []int{1, 2, 4, 8} {
		checkEqual(t, "IsPayload", impl.IsPayload(n), true)
	}
	for _, n := range notPayloads() {
		checkEqual(t, "IsPayload", impl.IsPayload(n), false)
	}
}

func TestSplitRange(t *testing.T) {
	checkPieces(t, 6, 10, 4, []impl.Piece{{Address: 6, Length: 2}, {Address: 8, Length: 4}, {Address: 12, Length: 4}})
	checkPieces(t, 0, 8, 8, []impl.Piece{{Address: 0, Length: 8}})
	checkPieces(t, 0, 9, 8, []impl.Piece{{Address: 0, Length: 8}, {Address: 8, Length: 1}})
	checkPieces(t, 5, 2, 8, []impl.Piece{{Address: 5, Length: 2}})
	checkPieces(t, 5, 3, 1, []impl.Piece{{Address: 5, Length: 1}, {Address: 6, Length: 1}, {Address: 7, Length: 1}})
	for length := 1; length <= 64; length++ {
		for _, payload := range []int{1, 2, 4, 8} {
			for address := range 33 {
				checkPieces(t, address, length, payload, pieces(address, length, payload))
			}
			for address := 65536 - length - 9; address <= 65536-length; address++ {
				checkPieces(t, address, length, payload, pieces(address, length, payload))
			}
		}
	}
}

// TestReadsThatBeginInTheMiddle end their first piece in front of the next
// multiple of the payload.
func TestReadsThatBeginInTheMiddle(t *testing.T) {
	for _, c := range []struct{ address, length, payload, first, count int }{
		{1, 64, 8, 7, 9}, {7, 64, 8, 1, 9}, {8, 64, 8, 8, 8}, {3, 4, 8, 4, 1}, {3, 5, 8, 5, 1}, {3, 6, 8, 5, 2},
		{1, 2, 2, 1, 2}, {65531, 5, 4, 1, 2}, {65535, 1, 8, 1, 1}, {1001, 10, 4, 3, 3},
	} {
		list := impl.SplitRange(c.address, c.length, c.payload)
		checkEqual(t, "the first piece", list[0], impl.Piece{Address: c.address, Length: c.first})
		checkEqual(t, "PieceCount", impl.PieceCount(c.address, c.length, c.payload), c.count)
		checkEqual(t, "the number of pieces", len(list), c.count)
	}
}

func TestRangesThatAreNotSplit(t *testing.T) {
	for _, payload := range notPayloads() {
		checkPieces(t, 0, 8, payload, nil)
	}
	for _, length := range []int{0, -1, 65, -64, math.MinInt, math.MaxInt} {
		checkPieces(t, 0, length, 4, nil)
		checkPieces(t, 100, length, 8, nil)
	}
	for _, address := range []int{-1, 65536, -64, math.MinInt, math.MaxInt} {
		checkPieces(t, address, 1, 4, nil)
		checkPieces(t, address, 64, 8, nil)
	}
	for length := 1; length <= 64; length++ {
		checkPieces(t, 65537-length, length, 8, nil)
	}
}

func TestAnswersTo(t *testing.T) {
	answers := impl.AnswersTo(impl.Packet{Kind: pkRead, From: 16, Address: 6, Length: 10, Tag: 3}, 33, words(10), 4)
	common := impl.Packet{Kind: pkCompletion, From: 33, To: 16, Tag: 3}
	var want []impl.Packet
	for _, c := range []struct{ length, from, to int }{{10, 0, 2}, {8, 2, 6}, {4, 6, 10}} {
		p := common
		p.Length, p.Data = c.length, words(10)[c.from:c.to]
		want = append(want, p)
	}
	checkEqual(t, "AnswersTo", answers, want)
	one := impl.AnswersTo(samplePacket(pkRead), 255, []int{65535}, 1)
	checkEqual(t, "AnswersTo", one, []impl.Packet{{Kind: pkCompletion, From: 255, Length: 1, Data: []int{65535}}})
}

func TestNoAnswers(t *testing.T) {
	read := fullPacket(pkRead)
	for kind := pkWrite; kind <= pkCompletion; kind++ {
		p := fullPacket(kind)
		if kind != pkRead {
			checkNoAnswers(t, p, 33, words(p.Length), 8)
			checkNoAnswers(t, p, 33, words(1), 8)
		}
	}
	for _, p := range badPackets() {
		checkNoAnswers(t, p, 33, words(10), 8)
		checkNoAnswers(t, p, 33, words(max(0, p.Length)), 8)
	}
	for _, length := range []int{0, -1, 65, math.MinInt, math.MaxInt} {
		p := read
		p.Length = length
		checkNoAnswers(t, p, 33, words(min(65, max(0, length))), 8)
	}
	for _, by := range notIds() {
		checkNoAnswers(t, read, by, words(10), 8)
	}
	for _, size := range []int{0, 1, 9, 11, 64} {
		checkNoAnswers(t, read, 33, words(size), 8)
	}
	for i := range 10 {
		for _, w := range []int{-1, 65536, math.MinInt, math.MaxInt} {
			data := words(10)
			data[i] = w
			checkNoAnswers(t, read, 33, data, 8)
		}
	}
	for _, payload := range notPayloads() {
		checkNoAnswers(t, read, 33, words(10), payload)
	}
}

func TestRefusalOf(t *testing.T) {
	for _, kind := range []int{pkRead, pkConfigRead, pkConfigWrite} {
		for _, p := range []impl.Packet{samplePacket(kind), fullPacket(kind)} {
			for _, by := range []int{0, 33, 255} {
				for _, status := range []int{1, 2} {
					refusal, ok := impl.RefusalOf(p, by, status)
					checkEqual(t, "RefusalOf's answer", ok, true)
					checkEqual(t, "RefusalOf", refusal, impl.Packet{Kind: pkCompletion, From: by, To: p.From, Tag: p.Tag, Status: status})
					checkEqual(t, "IsPacket", impl.IsPacket(refusal), true)
				}
				for _, status := range []int{0, 3, -1, math.MinInt, math.MaxInt} {
					checkNoRefusal(t, p, by, status)
				}
			}
			for _, by := range notIds() {
				checkNoRefusal(t, p, by, 1)
			}
		}
	}
	for _, kind := range []int{pkWrite, pkMessage, pkCompletion} {
		checkNoRefusal(t, fullPacket(kind), 33, 1)
	}
	for _, p := range badPackets() {
		checkNoRefusal(t, p, 33, 1)
	}
}

// TestSplitPromise is promise 26: the replies to a read contain all words in
// order.
func TestSplitPromise(t *testing.T) {
	n := numbers(26)
	for range 2000 {
		p, by, payload := randomPacket(&n, pkRead), n.below(256), 1<<n.below(4)
		var data, got []int
		for range p.Length {
			data = append(data, n.below(65536))
		}
		answers := impl.AnswersTo(p, by, data, payload)
		checkEqual(t, "the number of replies", len(answers), impl.PieceCount(p.Address, p.Length, payload))
		for i, answer := range answers {
			if !impl.IsPacket(answer) || answer.Length != p.Length-len(got) {
				t.Errorf("reply %d to %+v is %+v", i, p, answer)
			}
			checkEqual(t, "who replies, and to what", []int{answer.Kind, answer.From, answer.To, answer.Tag, answer.Status}, []int{pkCompletion, by, p.From, p.Tag, 0})
			got = append(got, answer.Data...)
			if end := p.Address + len(got); end%payload != 0 && i < len(answers)-1 {
				t.Errorf("reply %d to %+v ends at %d", i, p, end)
			}
		}
		checkEqual(t, "the words", got, data)
	}
}

func TestSplitMemory(t *testing.T) {
	data, write := spareList(words(10)...), spareList(7)
	p := fullPacket(pkRead)
	p.Data = spareList()
	answers := impl.AnswersTo(p, 33, data, 4)
	checkEqual(t, "the number of replies", len(answers), 3)
	checkApart(t, "the words of a reply", dataOf(answers))
	checkSpare(t, "the data", data, words(10)...)
	configWrite := fullPacket(pkConfigWrite)
	configWrite.Data = write
	refusal, _ := impl.RefusalOf(configWrite, 33, 1)
	overwrite(refusal.Data)
	checkSpare(t, "the word to be written", write, 7)
	checkSpare(t, "the data of the read", p.Data)
}
