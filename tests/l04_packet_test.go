package tests

import (
	"math"
	"slices"
	"testing"

	"loop.example/g00986/impl"
)

const (
	pkWrite       = 1
	pkMessage     = 2
	pkRead        = 3
	pkConfigRead  = 4
	pkConfigWrite = 5
	pkCompletion  = 6
)

// samplePacket is a valid packet of a kind, with the least values.
func samplePacket(kind int) impl.Packet {
	p := impl.Packet{Kind: kind}
	switch kind {
	case pkWrite, pkMessage, pkConfigWrite:
		p.Data = []int{0}
	case pkRead:
		p.Length = 1
	}
	return p
}

// fullPacket is a valid packet of a kind in which many fields are not 0.
func fullPacket(kind int) impl.Packet {
	switch kind {
	case pkWrite:
		return impl.Packet{Kind: kind, From: 16, Address: 100, Data: []int{7, 258}}
	case pkMessage:
		return impl.Packet{Kind: kind, From: 17, Data: []int{1, 2, 3, 4, 5}}
	case pkRead:
		return impl.Packet{Kind: kind, From: 16, Address: 6, Length: 10, Tag: 3}
	case pkConfigRead:
		return impl.Packet{Kind: kind, From: 1, To: 33, Address: 5, Tag: 2}
	case pkConfigWrite:
		return impl.Packet{Kind: kind, From: 1, To: 33, Address: 5, Tag: 2, Data: []int{65535}}
	}
	return impl.Packet{Kind: kind, From: 33, To: 16, Length: 9, Tag: 3, Data: []int{1, 2, 3}}
}

// packetField finds a number of a packet by its name.
func packetField(p *impl.Packet, name string) *int {
	switch name {
	case "From":
		return &p.From
	case "To":
		return &p.To
	case "Address":
		return &p.Address
	case "Length":
		return &p.Length
	case "Tag":
		return &p.Tag
	}
	return &p.Status
}

func words(n int) []int {
	list := make([]int, n)
	for i := range list {
		list[i] = 1000*i + 1
	}
	return list
}

func checkPacket(t *testing.T, p impl.Packet, want bool) {
	t.Helper()
	if got := impl.IsPacket(p); got != want {
		t.Errorf("IsPacket(%+v) = %v, want %v", p, got, want)
	}
	class, units := -1, -1
	if want {
		class = []int{0, 0, 0, 1, 1, 1, 2}[p.Kind]
		units = []int{0, 1, 1, 1, 1, 2, 2, 2, 2}[len(p.Data)]
	}
	if got := impl.ClassOf(p); got != class {
		t.Errorf("ClassOf(%+v) = %d, want %d", p, got, class)
	}
	if got := impl.PacketUnits(p); got != units {
		t.Errorf("PacketUnits(%+v) = %d, want %d", p, got, units)
	}
}

func TestPacketConstants(t *testing.T) {
	got := []int{
		impl.PkWrite, impl.PkMessage, impl.PkRead, impl.PkConfigRead, impl.PkConfigWrite, impl.PkCompletion,
		impl.ClPosted, impl.ClRequest, impl.ClAnswer, impl.StGood, impl.StBad, impl.StLate,
		impl.MaxAddress, impl.MaxData, impl.MaxTag,
	}
	if want := []int{1, 2, 3, 4, 5, 6, 0, 1, 2, 0, 1, 2, 65535, 8, 7}; !slices.Equal(got, want) {
		t.Errorf("constants are %v, want %v", got, want)
	}
}

func TestPacketKinds(t *testing.T) {
	for kind := pkWrite; kind <= pkCompletion; kind++ {
		checkPacket(t, samplePacket(kind), true)
		checkPacket(t, fullPacket(kind), true)
	}
	for _, kind := range []int{0, -1, 7, 8, -6, math.MinInt, math.MaxInt} {
		checkPacket(t, impl.Packet{Kind: kind}, false)
		checkPacket(t, impl.Packet{Kind: kind, Length: 1}, false)
		checkPacket(t, impl.Packet{Kind: kind, Data: []int{1}}, false)
	}
}

// TestPacketFieldRanges goes through the numbers of each kind: the highest
// value is valid, the next one and -1 are not. A field that must be 0 has the
// highest value 0.
func TestPacketFieldRanges(t *testing.T) {
	cases := []struct {
		kind  int
		field string
		high  int
	}{
		{pkWrite, "From", 255}, {pkWrite, "To", 0}, {pkWrite, "Address", 65535},
		{pkWrite, "Length", 0}, {pkWrite, "Tag", 0}, {pkWrite, "Status", 0},
		{pkMessage, "From", 255}, {pkMessage, "To", 0}, {pkMessage, "Address", 0},
		{pkMessage, "Length", 0}, {pkMessage, "Tag", 0}, {pkMessage, "Status", 0},
		{pkRead, "From", 255}, {pkRead, "To", 0}, {pkRead, "Address", 65535},
		{pkRead, "Length", 64}, {pkRead, "Tag", 7}, {pkRead, "Status", 0},
		{pkConfigRead, "From", 255}, {pkConfigRead, "To", 255}, {pkConfigRead, "Address", 63},
		{pkConfigRead, "Length", 0}, {pkConfigRead, "Tag", 7}, {pkConfigRead, "Status", 0},
		{pkConfigWrite, "From", 255}, {pkConfigWrite, "To", 255}, {pkConfigWrite, "Address", 63},
		{pkConfigWrite, "Length", 0}, {pkConfigWrite, "Tag", 7}, {pkConfigWrite, "Status", 0},
		{pkCompletion, "From", 255}, {pkCompletion, "To", 255}, {pkCompletion, "Address", 0},
		{pkCompletion, "Length", 64}, {pkCompletion, "Tag", 7}, {pkCompletion, "Status", 2},
	}
	for _, c := range cases {
		p := samplePacket(c.kind)
		*packetField(&p, c.field) = c.high
		checkPacket(t, p, true)
		for _, n := range []int{-1, c.high + 1, math.MinInt, math.MaxInt} {
			*packetField(&p, c.field) = n
			checkPacket(t, p, false)
		}
	}
}

func TestReadLengthIsNotZero(t *testing.T) {
	p := fullPacket(pkRead)
	p.Length = 0
	checkPacket(t, p, false)
}

func TestPacketEndOfAddresses(t *testing.T) {
	for n := 1; n <= 8; n++ {
		checkPacket(t, impl.Packet{Kind: pkWrite, Address: 65536 - n, Data: words(n)}, true)
		checkPacket(t, impl.Packet{Kind: pkWrite, Address: 65537 - n, Data: words(n)}, false)
	}
	for n := 1; n <= 64; n++ {
		checkPacket(t, impl.Packet{Kind: pkRead, Address: 65536 - n, Length: n}, true)
		checkPacket(t, impl.Packet{Kind: pkRead, Address: 65537 - n, Length: n}, false)
	}
}

func TestPacketDataSizes(t *testing.T) {
	sizes := []struct{ kind, low, high int }{
		{pkWrite, 1, 8}, {pkMessage, 1, 8}, {pkRead, 0, 0}, {pkConfigRead, 0, 0}, {pkConfigWrite, 1, 1},
	}
	for _, c := range sizes {
		for n := range 20 {
			p := fullPacket(c.kind)
			p.Data = words(n)
			checkPacket(t, p, c.low <= n && n <= c.high)
		}
	}
}

func TestCompletionDataSizes(t *testing.T) {
	for status := range 3 {
		for _, length := range []int{0, 1, 2, 7, 8, 9, 64} {
			for n := range 12 {
				p := fullPacket(pkCompletion)
				p.Status, p.Length, p.Data = status, length, words(n)
				checkPacket(t, p, n == 0 || status == 0 && n <= 8 && n <= length)
			}
		}
	}
}

func TestPacketWords(t *testing.T) {
	for _, kind := range []int{pkWrite, pkMessage, pkConfigWrite, pkCompletion} {
		size := len(fullPacket(kind).Data)
		for i := range size {
			for _, w := range []int{0, 1, 65535} {
				p := fullPacket(kind)
				p.Data[i] = w
				checkPacket(t, p, true)
			}
			for _, w := range []int{-1, 65536, math.MinInt, math.MaxInt} {
				p := fullPacket(kind)
				p.Data[i] = w
				checkPacket(t, p, false)
			}
		}
	}
}

func TestPacketsThatAreOtherKinds(t *testing.T) {
	// The full packet of each kind is no packet of another kind, but for a
	// message, which is a write to the address 0.
	for from := pkWrite; from <= pkCompletion; from++ {
		for kind := pkWrite; kind <= pkCompletion; kind++ {
			p := fullPacket(from)
			p.Kind = kind
			checkPacket(t, p, kind == from || from == pkMessage && kind == pkWrite)
		}
	}
}

func TestSamePacket(t *testing.T) {
	for kind := pkWrite; kind <= pkCompletion; kind++ {
		a, b := fullPacket(kind), fullPacket(kind)
		checkSame(t, a, b, true)
		for _, field := range []string{"From", "To", "Address", "Length", "Tag", "Status"} {
			c := fullPacket(kind)
			*packetField(&c, field)++
			checkSame(t, a, c, false)
		}
		c := fullPacket(kind)
		c.Kind++
		checkSame(t, a, c, false)
		c = fullPacket(kind)
		c.Data = append(c.Data, 0)
		checkSame(t, a, c, false)
	}
}

func checkSame(t *testing.T, a impl.Packet, b impl.Packet, want bool) {
	t.Helper()
	if impl.SamePacket(a, b) != want || impl.SamePacket(b, a) != want {
		t.Errorf("SamePacket(%+v, %+v) = %v, %v, want %v", a, b, impl.SamePacket(a, b), impl.SamePacket(b, a), want)
	}
}

func TestSamePacketData(t *testing.T) {
	with := func(data ...int) impl.Packet { return impl.Packet{Kind: pkWrite, Data: data} }
	checkSame(t, with(), impl.Packet{Kind: pkWrite, Data: []int{}}, true)
	checkSame(t, impl.Packet{}, impl.Packet{Data: []int{}}, true)
	checkSame(t, with(1, 2, 3), with(1, 2, 3), true)
	checkSame(t, with(1, 2, 3), with(1, 2, 4), false)
	checkSame(t, with(1, 2, 3), with(0, 2, 3), false)
	checkSame(t, with(1, 2, 3), with(3, 2, 1), false)
	checkSame(t, with(1, 2), with(1, 2, 0), false)
	checkSame(t, with(0), with(), false)
	// Packets that are not valid are compared as well.
	checkSame(t, impl.Packet{Kind: -1, Data: []int{-5}}, impl.Packet{Kind: -1, Data: []int{-5}}, true)
	checkSame(t, impl.Packet{Kind: -1, Data: []int{-5}}, impl.Packet{Kind: -1, Data: []int{-6}}, false)
}

func TestKindName(t *testing.T) {
	names := map[int]string{
		1: "write", 2: "message", 3: "read", 4: "configread", 5: "configwrite", 6: "completion",
		0: "", -1: "", 7: "", 8: "", math.MinInt: "", math.MaxInt: "",
	}
	for kind, want := range names {
		if got := impl.KindName(kind); got != want {
			t.Errorf("KindName(%d) = %q, want %q", kind, got, want)
		}
	}
}

func TestPacketArgumentsStay(t *testing.T) {
	data := []int{1, 2, 3, 9, 9}
	p := impl.Packet{Kind: pkWrite, From: 16, Address: 100, Data: data[:3]}
	checkPacket(t, p, true)
	checkSame(t, p, p, true)
	if !slices.Equal(data, []int{1, 2, 3, 9, 9}) {
		t.Errorf("the data became %v", data)
	}
}

// TestPacketPromise is promise 4: every valid packet has a class and needs at
// most two units.
func TestPacketPromise(t *testing.T) {
	valid := 0
	for kind := -1; kind <= 8; kind++ {
		for _, length := range []int{-1, 0, 1, 8, 64, 65} {
			for _, tag := range []int{-1, 0, 7, 8} {
				for status := -1; status <= 3; status++ {
					for size := range 10 {
						p := impl.Packet{Kind: kind, Length: length, Tag: tag, Status: status, Data: words(size)}
						valid += checkClassAndUnits(t, p)
					}
				}
			}
		}
	}
	if valid != 84 {
		t.Errorf("%d of these packets are valid, want 84", valid)
	}
}

func checkClassAndUnits(t *testing.T, p impl.Packet) int {
	t.Helper()
	class, units := impl.ClassOf(p), impl.PacketUnits(p)
	if !impl.IsPacket(p) {
		if class != -1 || units != -1 {
			t.Errorf("%+v is not valid, but has the class %d and %d units", p, class, units)
		}
		return 0
	}
	if class < impl.ClPosted || class > impl.ClAnswer || units < 0 || units > 2 {
		t.Errorf("%+v has the class %d and %d units", p, class, units)
	}
	return 1
}
