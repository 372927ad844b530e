package tests

import (
	"math"
	"slices"
	"testing"

	"loop.example/g00986/impl"
)

func TestWireConstant(t *testing.T) {
	checkEqual(t, "MaxBytes", impl.MaxBytes, 40)
}

func TestPacketBytes(t *testing.T) {
	wants := map[int][]int{
		pkWrite:       {1, 16, 0, 0, 100, 0, 0, 2, 0, 7, 1, 2},
		pkMessage:     {2, 17, 0, 0, 0, 0, 0, 5, 0, 1, 0, 2, 0, 3, 0, 4, 0, 5},
		pkRead:        {3, 16, 0, 0, 6, 10, 48, 0},
		pkConfigRead:  {4, 1, 33, 0, 5, 0, 32, 0},
		pkConfigWrite: {5, 1, 33, 0, 5, 0, 32, 1, 255, 255},
		pkCompletion:  {6, 33, 16, 0, 0, 9, 48, 3, 0, 1, 0, 2, 0, 3},
	}
	for kind, want := range wants {
		checkWire(t, fullPacket(kind), want)
	}
	checkWire(t, impl.Packet{Kind: pkRead, From: 255, Address: 65472, Length: 64, Tag: 7}, []int{3, 255, 0, 255, 192, 64, 112, 0})
	checkWire(t, impl.Packet{Kind: pkCompletion, To: 255, Tag: 7, Status: 2}, []int{6, 0, 255, 0, 0, 0, 114, 0})
	checkWire(t, impl.Packet{Kind: pkCompletion, To: 255, Length: 64, Tag: 1, Status: 1}, []int{6, 0, 255, 0, 0, 64, 17, 0})
	checkWire(t, impl.Packet{Kind: pkWrite, Address: 65535, Data: []int{65280}}, []int{1, 0, 0, 255, 255, 0, 0, 1, 255, 0})
}

func checkWire(t *testing.T, p impl.Packet, want []int) {
	t.Helper()
	checkEqual(t, "EncodePacket", impl.EncodePacket(p), want)
	got, ok := impl.DecodePacket(want)
	if !ok || !impl.SamePacket(got, p) {
		t.Errorf("DecodePacket(%v) = %+v, %v, want %+v, true", want, got, ok, p)
	}
}

func checkNoPacket(t *testing.T, bytes []int) {
	t.Helper()
	p, ok := impl.DecodePacket(bytes)
	if ok || !impl.SamePacket(p, impl.Packet{}) {
		t.Errorf("DecodePacket(%v) = %+v, %v, want the zero packet, false", bytes, p, ok)
	}
}

func TestInvalidPacketsHaveNoBytes(t *testing.T) {
	for kind := pkWrite; kind <= pkCompletion; kind++ {
		for _, field := range []string{"From", "To", "Address", "Length", "Tag", "Status"} {
			for _, n := range []int{-1, 256, 65536, math.MinInt, math.MaxInt} {
				p := fullPacket(kind)
				*packetField(&p, field) = n
				if field == "Address" && n == 256 && kind <= pkRead && kind != pkMessage {
					continue
				}
				checkEqual(t, "EncodePacket of an invalid packet", impl.EncodePacket(p), []int{})
			}
		}
	}
	for _, p := range []impl.Packet{{}, {Kind: 7}, {Kind: pkWrite}, {Kind: pkWrite, Data: words(9)}, {Kind: pkMessage, Data: []int{65536}}} {
		checkEqual(t, "EncodePacket of an invalid packet", impl.EncodePacket(p), []int{})
	}
}

func TestListsOfTheWrongLength(t *testing.T) {
	checkNoPacket(t, nil)
	for kind := pkWrite; kind <= pkCompletion; kind++ {
		whole := impl.EncodePacket(fullPacket(kind))
		for n := range whole {
			checkNoPacket(t, whole[:n])
		}
		longer := whole
		for len(longer) < 45 {
			longer = append(longer, 0)
			checkNoPacket(t, longer)
		}
	}
}

func TestWrongNumberOfWords(t *testing.T) {
	for kind := pkWrite; kind <= pkCompletion; kind++ {
		whole := impl.EncodePacket(fullPacket(kind))
		for n := range 256 {
			if n == whole[7] {
				continue
			}
			changed := slices.Clone(whole)
			changed[7] = n
			checkNoPacket(t, changed)
		}
	}
	// The number of words agrees with the length, but is too large for a write.
	checkNoPacket(t, append([]int{1, 0, 0, 0, 0, 0, 0, 9}, make([]int, 18)...))
	checkNoPacket(t, append([]int{6, 0, 0, 0, 0, 64, 0, 9}, make([]int, 18)...))
}

func TestElementsThatAreNoBytes(t *testing.T) {
	for kind := pkWrite; kind <= pkCompletion; kind++ {
		whole := impl.EncodePacket(fullPacket(kind))
		for i := range whole {
			for _, b := range notBytes() {
				changed := slices.Clone(whole)
				changed[i] = b
				checkNoPacket(t, changed)
			}
			// These have the same sum as a valid pair of bytes.
			if i > 0 {
				changed := slices.Clone(whole)
				changed[i-1]--
				changed[i] += 256
				checkNoPacket(t, changed)
			}
		}
	}
}

// TestChangedBytes changes each byte to each value: what is still read is a
// valid packet with just these bytes.
func TestChangedBytes(t *testing.T) {
	for kind := pkWrite; kind <= pkCompletion; kind++ {
		whole := impl.EncodePacket(fullPacket(kind))
		for i := range whole {
			for b := range 256 {
				changed := slices.Clone(whole)
				changed[i] = b
				p, ok := impl.DecodePacket(changed)
				if !ok {
					checkNoPacket(t, changed)
					continue
				}
				if !impl.IsPacket(p) || !slices.Equal(impl.EncodePacket(p), changed) {
					t.Errorf("DecodePacket(%v) = %+v, which has the bytes %v", changed, p, impl.EncodePacket(p))
				}
			}
		}
	}
}

func TestWireMemory(t *testing.T) {
	p := fullPacket(pkWrite)
	p.Data = spareList(7, 258)
	bytes := impl.EncodePacket(p)
	overwrite(bytes)
	checkSpare(t, "the data", p.Data, 7, 258)

	list := spareList(impl.EncodePacket(p)...)
	q, _ := impl.DecodePacket(list)
	overwrite(q.Data)
	checkSpare(t, "the list", list, 1, 16, 0, 0, 100, 0, 0, 2, 0, 7, 1, 2)
}

func TestAreBytes(t *testing.T) {
	for size := range 45 {
		for _, b := range []int{0, 1, 254, 255} {
			list := slices.Repeat([]int{b}, size)
			checkEqual(t, "AreBytes of a list of bytes", impl.AreBytes(list), size <= 40)
		}
		for i := range size {
			for _, b := range notBytes() {
				list := make([]int, size)
				list[i] = b
				checkEqual(t, "AreBytes of a list with another number", impl.AreBytes(list), false)
			}
		}
	}
	checkEqual(t, "AreBytes(nil)", impl.AreBytes(nil), true)
}

func TestSplitWord(t *testing.T) {
	for w := range 65536 {
		high, low := impl.SplitWord(w)
		if high*256+low != w || low < 0 || low > 255 {
			t.Errorf("SplitWord(%d) = %d, %d", w, high, low)
		}
	}
	for _, w := range []int{-1, -256, 65536, 65537, math.MinInt, math.MaxInt} {
		if high, low := impl.SplitWord(w); high != 0 || low != 0 {
			t.Errorf("SplitWord(%d) = %d, %d, want 0, 0", w, high, low)
		}
	}
}

// TestWirePromise is promise 5: packets are read back from their bytes.
func TestWirePromise(t *testing.T) {
	n := numbers(5)
	read := 0
	for kind := pkWrite; kind <= pkCompletion; kind++ {
		for range 2000 {
			p := randomPacket(&n, kind)
			bytes := impl.EncodePacket(p)
			if !impl.IsPacket(p) || !impl.AreBytes(bytes) {
				t.Fatalf("%+v is no packet, or has the bytes %v", p, bytes)
			}
			checkWire(t, p, bytes)
			read++
		}
	}
	checkEqual(t, "the number of packets", read, 12000)
}

func randomPacket(n *numbers, kind int) impl.Packet {
	p := impl.Packet{Kind: kind, From: n.below(256)}
	if kind >= pkRead {
		p.Tag = n.below(8)
	}
	if kind >= pkConfigRead {
		p.To = n.below(256)
	}
	size := 1 + n.below(8)
	switch kind {
	case pkWrite:
		p.Address = n.below(65529)
	case pkRead:
		p.Address, p.Length, size = n.below(65473), 1+n.below(64), 0
	case pkConfigRead:
		p.Address, size = n.below(64), 0
	case pkConfigWrite:
		p.Address, size = n.below(64), 1
	case pkCompletion:
		p.Length, p.Status = n.below(65), n.below(3)
		size = min(size, p.Length)
		if p.Status > 0 {
			size = 0
		}
	}
	for range size {
		p.Data = append(p.Data, n.below(65536))
	}
	return p
}
