package tests

import (
	"math"
	"slices"
	"testing"

	"loop.example/g00986/impl"
)

const (
	fcGood   = 0
	fcNobody = 1
	fcCut    = 2
	fcCross  = 3
)

// gapSizes are sizes for the sample tree; there are addresses that belong to no
// device between its windows. gapWindows are the windows.
func gapSizes() []int {
	return []int{0, 0, 0, 64, 0, 16, 64, 32}
}

func gapWindows() []impl.Bar {
	return []impl.Bar{
		{Size: 256}, {Size: 128}, {}, {Size: 64, Base: 128},
		{Size: 64}, {Size: 16, Base: 32}, {Size: 64, Base: 64}, {Size: 32},
	}
}

// sampleFabric has the sample tree, in which the nodes 3 and 4 are cut off. Its
// memory is not empty.
func sampleFabric() impl.Fabric {
	f := impl.Fabric{Tree: sampleTree(), Sizes: gapSizes(), Windows: gapWindows(), Guard: guardWithout(8, 3, 4)}
	for k, size := range gapSizes() {
		f.Memory = append(f.Memory, make([]int, size))
		for i := range size {
			f.Memory[k][i] = 1000*k + i
		}
	}
	return f
}

// openFabric is the sample fabric without cuts.
func openFabric() impl.Fabric {
	f := sampleFabric()
	f.Guard = guardWithout(8)
	return f
}

// badFabrics are fabrics that are not valid, each for one reason.
func badFabrics() map[string]impl.Fabric {
	bad := map[string]impl.Fabric{"zero": {}}
	change := func(name string, change func(f *impl.Fabric)) {
		f := openFabric()
		change(&f)
		bad[name] = f
	}
	for name, tree := range badTrees() {
		change("tree: "+name, func(f *impl.Fabric) { f.Tree = tree })
	}
	change("another tree", func(f *impl.Fabric) { f.Tree[2].Functions = 1; f.Sizes[2] = 16 })
	for _, size := range []int{0, 32, 48, 128, -16} {
		change("size "+impl.FormatInt(size), func(f *impl.Fabric) { f.Sizes[5] = size })
	}
	change("size of a bridge", func(f *impl.Fabric) { f.Sizes[2] = 16 })
	change("no sizes", func(f *impl.Fabric) { f.Sizes = nil })
	for k := range 8 {
		name := " " + impl.FormatInt(k)
		change("size of window"+name, func(f *impl.Fabric) { f.Windows[k].Size += 16 })
		change("base of window"+name, func(f *impl.Fabric) { f.Windows[k].Base += 16 })
		change("more memory"+name, func(f *impl.Fabric) { f.Memory[k] = append(f.Memory[k], 0) })
		if gapSizes()[k] == 0 {
			continue
		}
		change("less memory"+name, func(f *impl.Fabric) { f.Memory[k] = f.Memory[k][1:] })
		change("no memory"+name, func(f *impl.Fabric) { f.Memory[k] = nil })
		for _, w := range []int{-1, 65536, math.MinInt, math.MaxInt} {
			change("first word "+impl.FormatInt(w)+name, func(f *impl.Fabric) { f.Memory[k][0] = w })
			change("last word "+impl.FormatInt(w)+name, func(f *impl.Fabric) { f.Memory[k][gapSizes()[k]-1] = w })
		}
	}
	change("no windows", func(f *impl.Fabric) { f.Windows = nil })
	change("one window less", func(f *impl.Fabric) { f.Windows = f.Windows[:7] })
	change("one window more", func(f *impl.Fabric) { f.Windows = append(f.Windows, impl.Bar{}) })
	change("no memory at all", func(f *impl.Fabric) { f.Memory = nil })
	change("one memory less", func(f *impl.Fabric) { f.Memory = f.Memory[:7] })
	change("one memory more", func(f *impl.Fabric) { f.Memory = append(f.Memory, nil) })
	for i, g := range badGuards() {
		change("guard "+impl.FormatInt(i), func(f *impl.Fabric) { f.Guard = g })
	}
	// A device of 128 words is valid for Allocate, but has too much memory.
	tree, sizes := []impl.Node{{Parent: -1}, {Parent: 0, Functions: 1}}, []int{0, 128}
	bad["128 words"] = impl.Fabric{
		Tree: tree, Sizes: sizes, Windows: []impl.Bar{{Size: 128}, {Size: 128}}, Memory: [][]int{{}, make([]int, 128)}, Guard: guardWithout(2),
	}
	return bad
}

// eachFabric calls check with many fabrics, whose memory is not empty.
func eachFabric(check func(f impl.Fabric)) {
	check(sampleFabric())
	check(openFabric())
	n := numbers(38)
	eachTree(func(tree []impl.Node) {
		sizes := make([]int, len(tree))
		for k, node := range tree {
			if node.Functions > 0 {
				sizes[k] = []int{0, 16, 32, 64}[n.below(4)]
			}
		}
		f, ok := impl.NewFabric(tree, sizes)
		if !ok {
			panic("there is no fabric")
		}
		f.Guard = randomGuard(&n, tree)
		for _, list := range f.Memory {
			for i := range list {
				list[i] = n.below(65536)
			}
		}
		check(f)
	})
}

// targetOf follows the description of TargetOf for a valid fabric.
func targetOf(f impl.Fabric, from int, address int, length int) (int, int) {
	for k, w := range f.Windows {
		if f.Tree[k].Functions == 0 || !windowHas(w, address) {
			continue
		}
		switch {
		case from < 0 || from >= len(f.Tree) || length < 1 || length > 64:
			return 0, fcNobody
		case !windowHas(w, address+length-1):
			return k, fcCross
		case !canReach(f.Tree, f.Guard, from, k):
			return k, fcCut
		}
		return k, fcGood
	}
	return 0, fcNobody
}

func checkTarget(t *testing.T, f impl.Fabric, from int, address int, length int, want int, code int) {
	t.Helper()
	if k, c := impl.TargetOf(f, from, address, length); k != want || c != code {
		t.Errorf("TargetOf(%+v, %d, %d, %d) = %d, %d, want %d, %d", f, from, address, length, k, c, want, code)
	}
	data, c := impl.LoadWords(f, from, address, length)
	if c != code || code != fcGood && data != nil {
		t.Errorf("LoadWords(%+v, %d, %d, %d) = %v, %d, want the code %d", f, from, address, length, data, c, code)
	}
	if length >= 0 && length <= 100 {
		got, c := impl.StoreWords(f, from, address, make([]int, length))
		checkEqual(t, "StoreWords' code", c, code)
		checkEqual(t, "whether StoreWords changes nothing", impl.SameFabric(got, f), code != fcGood)
	}
}

// checkNotStored checks that nothing is stored, with this code.
func checkNotStored(t *testing.T, f impl.Fabric, from int, address int, data []int, code int) {
	t.Helper()
	got, c := impl.StoreWords(f, from, address, data)
	checkEqual(t, "StoreWords' code", c, code)
	checkEqual(t, "StoreWords that is not possible", got, f)
}

func checkServed(t *testing.T, f impl.Fabric, from int, p impl.Packet, payload int, want impl.Fabric, answers ...impl.Packet) {
	t.Helper()
	got, list := impl.ServePacket(f, from, p, payload)
	checkEqual(t, "ServePacket's packets", list, answers)
	checkEqual(t, "ServePacket", got, want)
}

func refusalTo(p impl.Packet, by int) impl.Packet {
	return impl.Packet{Kind: pkCompletion, From: by, To: p.From, Tag: p.Tag, Status: 1}
}

func TestNewFabric(t *testing.T) {
	got := []int{impl.MaxRoom, impl.FcGood, impl.FcNobody, impl.FcCut, impl.FcCross}
	checkEqual(t, "constants", got, []int{64, 0, 1, 2, 3})
	want := openFabric()
	for _, list := range want.Memory {
		clear(list)
	}
	f, ok := impl.NewFabric(sampleTree(), gapSizes())
	checkEqual(t, "NewFabric's answer", ok, true)
	checkEqual(t, "NewFabric", f, want)
	eachSized(func(tree []impl.Node, sizes []int) {
		f, ok := impl.NewFabric(tree, sizes)
		windows, fits := impl.Allocate(tree, sizes)
		if slices.Max(sizes) > 64 || !fits {
			checkEqual(t, "NewFabric's answer", ok, false)
			checkEqual(t, "NewFabric", f, impl.Fabric{})
			return
		}
		memory := make([][]int, len(tree))
		for k, size := range sizes {
			memory[k] = make([]int, size)
		}
		checkEqual(t, "NewFabric's answer", ok, true)
		checkEqual(t, "NewFabric", f, impl.Fabric{Tree: tree, Sizes: sizes, Windows: windows, Memory: memory, Guard: guardWithout(len(tree))})
		checkEqual(t, "FabricOk", impl.FabricOk(f), true)
	})
}

func TestNoFabric(t *testing.T) {
	check := func(tree []impl.Node, sizes []int) {
		f, ok := impl.NewFabric(tree, sizes)
		checkEqual(t, "NewFabric's answer", ok, false)
		checkEqual(t, "NewFabric", f, impl.Fabric{})
	}
	for _, sizes := range badSizes() {
		check(sampleTree(), sizes)
	}
	for k, n := range sampleTree() {
		for size := 128; size <= 4096 && n.Functions > 0; size *= 2 {
			sizes := sampleSizes()
			sizes[k] = size
			check(sampleTree(), sizes)
		}
	}
	for _, tree := range badTrees() {
		check(tree, make([]int, len(tree)))
		check(tree, sampleSizes())
	}
}

func TestFabricOk(t *testing.T) {
	eachFabric(func(f impl.Fabric) {
		if !impl.FabricOk(f) {
			t.Errorf("FabricOk(%+v) = false", f)
		}
	})
	f := sampleFabric()
	f.Memory[5][0], f.Memory[5][15] = 65535, 0
	checkEqual(t, "FabricOk", impl.FabricOk(f), true)
}

func TestInvalidFabrics(t *testing.T) {
	read := impl.Packet{Kind: pkRead, From: 0, Address: 70, Length: 3, Tag: 1}
	for name, f := range badFabrics() {
		checkEqual(t, "FabricOk: "+name, impl.FabricOk(f), false)
		checkTarget(t, f, 0, 70, 3, 0, fcNobody)
		checkNotStored(t, f, 0, 70, []int{1, 2}, fcNobody)
		checkServed(t, f, 0, writeOf(16, 70, 5), 4, f)
		checkServed(t, f, 0, read, 4, f)
	}
}

func TestTargetOf(t *testing.T) {
	for _, c := range []struct{ from, address, length, k, code int }{
		{0, 64, 64, 6, fcGood}, {0, 127, 1, 6, fcGood}, {0, 0, 1, 7, fcCut}, {3, 128, 64, 3, fcGood}, {3, 64, 1, 6, fcCut},
		{0, 128, 1, 3, fcCut}, {5, 0, 32, 7, fcGood}, {7, 47, 1, 5, fcGood}, {5, 64, 1, 6, fcCut}, {2, 90, 5, 6, fcGood},
		{0, 48, 1, 0, fcNobody}, {0, 63, 2, 0, fcNobody}, {0, 192, 1, 0, fcNobody}, {0, 255, 1, 0, fcNobody}, {0, 256, 1, 0, fcNobody},
	} {
		checkTarget(t, sampleFabric(), c.from, c.address, c.length, c.k, c.code)
	}
	for _, k := range notNodes(sampleTree()) {
		checkTarget(t, sampleFabric(), k, 70, 3, 0, fcNobody)
	}
	for _, address := range []int{-1, 65535, 65536, math.MinInt, math.MaxInt} {
		checkTarget(t, sampleFabric(), 0, address, 1, 0, fcNobody)
		checkTarget(t, sampleFabric(), 0, address, 64, 0, fcNobody)
	}
	for _, length := range []int{0, -1, 65, 66, math.MinInt, math.MaxInt} {
		checkTarget(t, sampleFabric(), 0, 64, length, 0, fcNobody)
		checkTarget(t, sampleFabric(), 0, 47, length, 0, fcNobody)
	}
	n := numbers(138)
	var codes [4]int
	eachFabric(func(f impl.Fabric) {
		for range 20 {
			from, address, length := n.below(len(f.Tree)+1), n.below(f.Windows[0].Size+5), 1+n.below(1+n.below(70))
			k, code := targetOf(f, from, address, length)
			checkTarget(t, f, from, address, length, k, code)
			codes[code]++
		}
	})
	if slices.Min(codes[:]) < 100 {
		t.Errorf("the codes came %v times", codes)
	}
}

// TestRequestsAcrossTheEnd of a device are refused as a whole, also if the next
// words belong to another device, or if the device is cut off.
func TestRequestsAcrossTheEnd(t *testing.T) {
	for _, f := range []impl.Fabric{openFabric(), sampleFabric()} {
		for k, w := range gapWindows() {
			if gapSizes()[k] == 0 {
				continue
			}
			end := w.Base + w.Size
			for length := 1; length <= 64; length++ {
				for address := max(w.Base, end-length+1); address < end; address++ {
					checkTarget(t, f, 0, address, length, k, fcCross)
				}
				if address := end - length; address >= w.Base {
					_, code := targetOf(f, 0, address, length)
					checkTarget(t, f, 0, address, length, k, code)
				}
			}
		}
	}
	p := impl.Packet{Kind: pkRead, From: 44, Address: 126, Length: 3, Tag: 1}
	checkServed(t, openFabric(), 5, p, 4, openFabric(), refusalTo(p, 16))
	checkServed(t, openFabric(), 5, writeOf(44, 126, 1, 2, 3), 4, openFabric())
	checkNotStored(t, openFabric(), 0, 31, []int{1, 2}, fcCross)
}

func TestStoreAndLoad(t *testing.T) {
	want := openFabric()
	copy(want.Memory[6][6:], []int{0, 65535, 7})
	got, code := impl.StoreWords(openFabric(), 3, 70, []int{0, 65535, 7})
	checkEqual(t, "StoreWords' code", code, fcGood)
	checkEqual(t, "StoreWords", got, want)
	words, code := impl.LoadWords(got, 5, 69, 5)
	checkEqual(t, "LoadWords' code", code, fcGood)
	checkEqual(t, "LoadWords", words, []int{6005, 0, 65535, 7, 6009})
	words, _ = impl.LoadWords(got, 0, 127, 1)
	checkEqual(t, "LoadWords", words, []int{6063})
	all, code := impl.StoreWords(openFabric(), 6, 64, sampleData(64))
	checkEqual(t, "StoreWords' code", code, fcGood)
	checkEqual(t, "the memory", all.Memory[6], sampleData(64))
	n := numbers(238)
	stored := 0
	eachFabric(func(f impl.Fabric) {
		for range 10 {
			from, address, data := n.below(len(f.Tree)), n.below(f.Windows[0].Size+1), words64(&n)
			k, code := targetOf(f, from, address, len(data))
			if code != fcGood {
				checkNotStored(t, f, from, address, data, code)
				continue
			}
			want := f
			want.Memory = slices.Clone(f.Memory)
			want.Memory[k] = slices.Clone(f.Memory[k])
			copy(want.Memory[k][address-f.Windows[k].Base:], data)
			got, code := impl.StoreWords(f, from, address, data)
			checkEqual(t, "StoreWords' code", code, fcGood)
			checkEqual(t, "StoreWords", got, want)
			loaded, code := impl.LoadWords(got, from, address, len(data))
			checkEqual(t, "LoadWords' code", code, fcGood)
			checkEqual(t, "LoadWords", loaded, data)
			stored++
		}
	})
	if stored < 100 {
		t.Errorf("only %d times, words were stored", stored)
	}
}

// words64 are 1 to 64 words, mostly few of them.
func words64(n *numbers) []int {
	data := make([]int, 1+n.below(1+n.below(64)))
	for i := range data {
		data[i] = n.below(65536)
	}
	return data
}

// TestWhatIsNotStored: a word that is none is nobody's, wherever it goes.
func TestWhatIsNotStored(t *testing.T) {
	for _, w := range []int{-1, 65536, math.MinInt, math.MaxInt} {
		for _, f := range []impl.Fabric{openFabric(), sampleFabric()} {
			checkNotStored(t, f, 0, 70, []int{w}, fcNobody)
			checkNotStored(t, f, 0, 70, []int{1, w, 2}, fcNobody)
			checkNotStored(t, f, 0, 130, []int{1, w}, fcNobody)
			checkNotStored(t, f, 0, 127, []int{1, 2, w}, fcNobody)
		}
	}
	checkNotStored(t, openFabric(), 0, 70, nil, fcNobody)
	checkNotStored(t, openFabric(), 0, 64, make([]int, 65), fcNobody)
	checkNotStored(t, sampleFabric(), 0, 130, []int{1}, fcCut)
	checkNotStored(t, sampleFabric(), 0, 191, []int{1, 2}, fcCross)
	checkNotStored(t, sampleFabric(), 0, 192, []int{1}, fcNobody)
}

func TestServePacket(t *testing.T) {
	f := sampleFabric()
	want := sampleFabric()
	copy(want.Memory[6][6:], []int{5, 6})
	for _, payload := range []int{1, 2, 4, 8} {
		checkServed(t, f, 0, writeOf(200, 70, 5, 6), payload, want)
		p := impl.Packet{Kind: pkRead, From: 200, Address: 70, Length: 7, Tag: 5}
		answers := impl.AnswersTo(p, 16, []int{6006, 6007, 6008, 6009, 6010, 6011, 6012}, payload)
		checkServed(t, f, 0, p, payload, f, answers...)
	}
	p := impl.Packet{Kind: pkRead, From: 200, Address: 127, Length: 1, Tag: 5}
	checkServed(t, f, 6, p, 8, f, impl.Packet{Kind: pkCompletion, From: 16, To: 200, Length: 1, Tag: 5, Data: []int{6063}})
	// Nobody, a cut and the end of a device: the last two reply by the device.
	for _, c := range []struct{ from, address, length, by int }{
		{0, 48, 1, 200}, {0, 300, 64, 200}, {0, 130, 1, 0}, {0, 40, 1, 44}, {5, 127, 2, 16}, {5, 70, 1, 16}, {0, 47, 2, 44},
	} {
		p.Address, p.Length = c.address, c.length
		checkServed(t, f, c.from, p, 2, f, refusalTo(p, c.by))
	}
	for _, address := range []int{48, 130, 127, 300} {
		checkServed(t, f, 0, writeOf(200, address, 5, 6), 2, f)
	}
}

func TestWhatIsNotServed(t *testing.T) {
	f := openFabric()
	read := impl.Packet{Kind: pkRead, From: 200, Address: 70, Length: 7, Tag: 5}
	for _, kind := range []int{pkMessage, pkConfigRead, pkConfigWrite, pkCompletion} {
		checkServed(t, f, 0, samplePacket(kind), 4, f)
		checkServed(t, f, 0, fullPacket(kind), 4, f)
	}
	for _, p := range append(badPackets(), writeOf(256, 70, 1), writeOf(16, 70), writeOf(16, 70, 1, 65536), impl.Packet{Kind: pkRead, Address: 70, Length: 65}) {
		checkServed(t, f, 0, p, 4, f)
	}
	for _, payload := range notPayloads() {
		checkServed(t, f, 0, read, payload, f)
		checkServed(t, f, 0, writeOf(16, 70, 1), payload, f)
	}
	for _, k := range notNodes(sampleTree()) {
		checkServed(t, f, k, read, 4, f)
		checkServed(t, f, k, writeOf(16, 70, 1), 4, f)
	}
}

// carried follows the description of CarryPackets with the functions of the
// link, for what is valid.
func carried(list []impl.Packet, acts []impl.LinkAct) ([]impl.Packet, bool) {
	l := impl.NewLink()
	next := 0
	queue := func() bool {
		some := false
		for next < len(list) && len(l.Sender.Buffer) < 7 {
			l.Sender, _ = impl.QueueFrame(l.Sender, impl.EncodePacket(list[next]))
			next++
			some = true
		}
		return some
	}
	queue()
	for _, a := range acts {
		if a.Kind != laQueue {
			l, _ = impl.LinkStep(l, a)
		}
		queue()
	}
	for again := true; again; again = queue() {
		l = impl.DrainLink(l)
	}
	var got []impl.Packet
	for _, bytes := range l.Receiver.Accepted {
		p, ok := impl.DecodePacket(bytes)
		if !ok {
			return nil, false
		}
		got = append(got, p)
	}
	return got, true
}

func checkCarried(t *testing.T, list []impl.Packet, acts []impl.LinkAct, want []impl.Packet) {
	t.Helper()
	got, ok := impl.CarryPackets(list, acts)
	checkEqual(t, "CarryPackets' answer", ok, true)
	checkEqual(t, "CarryPackets", got, want)
}

func checkNotCarried(t *testing.T, list []impl.Packet, acts []impl.LinkAct) {
	t.Helper()
	if got, ok := impl.CarryPackets(list, acts); got != nil || ok {
		t.Errorf("CarryPackets(%+v, ..) = %+v, %v, want nil, false", list, got, ok)
	}
}

// somePackets are valid packets of all kinds, each with a From of its own.
func somePackets(size int) []impl.Packet {
	list := make([]impl.Packet, size)
	for i := range list {
		list[i] = fullPacket(1 + i%6)
		list[i].From = 10 * i
	}
	return list
}

func TestCarryPackets(t *testing.T) {
	for size := range 21 {
		checkCarried(t, somePackets(size), nil, somePackets(size))
		checkCarried(t, somePackets(size), slices.Repeat([]impl.LinkAct{{Kind: laSend}, {Kind: laLose}, {Kind: laTimeout}, {Kind: laQueue, N: 7}}, 100), somePackets(size))
	}
	checkNotCarried(t, somePackets(21), nil)
	checkCarried(t, somePackets(3), make([]impl.LinkAct, 400), somePackets(3))
	checkNotCarried(t, somePackets(3), make([]impl.LinkAct, 401))
	checkNotCarried(t, nil, make([]impl.LinkAct, 401))
	for _, p := range badPackets() {
		checkNotCarried(t, []impl.Packet{p}, nil)
		for i := range 3 {
			checkNotCarried(t, slices.Insert(somePackets(3), i, p), []impl.LinkAct{{Kind: laSend}})
		}
	}
}

// TestNothingElseIsQueued: packets wait until there is room, and the acts of the
// kind LaQueue are left out, also when there is room.
func TestNothingElseIsQueued(t *testing.T) {
	acts := slices.Repeat([]impl.LinkAct{{Kind: laQueue, N: 770}}, 20)
	checkCarried(t, nil, acts, []impl.Packet{})
	checkCarried(t, somePackets(1), acts, somePackets(1))
	// The eighth packet is queued when the first one has been acknowledged: the
	// next frame that is sent is the second one again, after a timeout.
	var steps []impl.LinkAct
	for _, kind := range []int{laSend, laDeliver, laAnswer, laQueue, laSend, laDeliver, laAnswer, laTimeout} {
		steps = append(steps, impl.LinkAct{Kind: kind, N: 770})
	}
	checkCarried(t, somePackets(20), slices.Repeat(steps, 5), somePackets(20))
}

func TestCarryOverBadLinks(t *testing.T) {
	n := numbers(338)
	for range 60 {
		list := somePackets(n.below(21))
		for i := range list {
			list[i] = randomPacket(&n, 1+n.below(6))
		}
		acts := randomActs(&n, n.below(401))
		want, ok := carried(list, acts)
		checkEqual(t, "the answer", ok, true)
		checkCarried(t, list, acts, want)
		checkCarried(t, list, acts, list)
	}
}

// forging damages four bits of the first frame under way, from a bit of it on
// (the highest one of the first byte is 0), so that its checksum is right.
func forging(bit int) []impl.LinkAct {
	var acts []impl.LinkAct
	for _, at := range []int{bit, bit + 4, bit + 11, bit + 16} {
		acts = append(acts, impl.LinkAct{Kind: laDamage, N: 8 * (at/8*8 + 7 - at%8)})
	}
	return acts
}

// checkAsDescribed compares CarryPackets with its description, and says what
// became of the packets.
func checkAsDescribed(t *testing.T, list []impl.Packet, acts []impl.LinkAct) string {
	t.Helper()
	want, ok := carried(list, acts)
	if !ok {
		checkNotCarried(t, list, acts)
		return "rejected"
	}
	checkCarried(t, list, acts, want)
	if !slices.EqualFunc(want, list, impl.SamePacket) {
		return "forged"
	}
	return "the same"
}

// TestForgedFrames are accepted: their bytes are another packet, or none.
func TestForgedFrames(t *testing.T) {
	send, deliver := impl.LinkAct{Kind: laSend}, impl.LinkAct{Kind: laDeliver}
	forged, rejected := 0, 0
	for bit := range 104 {
		acts := append(append([]impl.LinkAct{send}, forging(bit)...), deliver)
		list := somePackets(1)
		switch checkAsDescribed(t, list, acts) {
		case "forged":
			forged++
		case "rejected":
			rejected++
		}
	}
	if forged < 5 || rejected < 5 {
		t.Errorf("%d frames were forged and %d rejected", forged, rejected)
	}
	// The frame after the forged one is queued and delivered as always.
	list := []impl.Packet{writeOf(1, 0, 0, 0, 0, 0), writeOf(2, 5, 7)}
	changed := writeOf(1, 0, 0, 1<<15|1<<11|1<<4, 1<<15, 0)
	checkCarried(t, list, append(append([]impl.LinkAct{send}, forging(8*11)...), deliver), []impl.Packet{changed, list[1]})
}

// TestPacketsAreQueuedEarly: there is room for the last two packets only when
// others have been acknowledged, but then they are queued before the next act,
// so that acts can damage their frames.
func TestPacketsAreQueuedEarly(t *testing.T) {
	list := make([]impl.Packet, 9)
	var acts []impl.LinkAct
	for i := range list {
		list[i] = writeOf(i, 0, 0, 0, 0, 0)
		acts = append(acts, impl.LinkAct{Kind: laSend})
		if i < 8 {
			acts = append(acts, impl.LinkAct{Kind: laDeliver}, impl.LinkAct{Kind: laAnswer})
		}
	}
	acts = append(append(acts, forging(8*11)...), impl.LinkAct{Kind: laDeliver})
	changed := append(slices.Clone(list[:8]), writeOf(8, 0, 0, 1<<15|1<<11|1<<4, 1<<15, 0))
	checkCarried(t, list, acts, changed)
}

// TestRandomForgedFrames compares CarryPackets with its description for acts
// that damage many frames without notice.
func TestRandomForgedFrames(t *testing.T) {
	n := numbers(538)
	forged, rejected := 0, 0
	for range 300 {
		list := make([]impl.Packet, n.below(21))
		for i := range list {
			list[i] = writeOf(n.below(256), n.below(60000), words(8)...)
		}
		var acts []impl.LinkAct
		for range 1 + n.below(20) {
			acts = append(acts, randomActs(&n, n.below(10))...)
			if n.below(4) == 0 {
				acts = append(append(acts, impl.LinkAct{Kind: laSend}), forging(32+n.below(180))...)
			}
		}
		switch checkAsDescribed(t, list, acts) {
		case "forged":
			forged++
		case "rejected":
			rejected++
		}
	}
	if forged < 30 || rejected < 30 {
		t.Errorf("%d lists of packets were forged and %d rejected", forged, rejected)
	}
}

func TestSameFabric(t *testing.T) {
	checkEqual(t, "SameFabric", impl.SameFabric(sampleFabric(), sampleFabric()), true)
	checkEqual(t, "SameFabric", impl.SameFabric(impl.Fabric{}, impl.Fabric{Memory: [][]int{}, Guard: impl.Guard{Open: []bool{}}}), true)
	checkEqual(t, "SameFabric", impl.SameFabric(impl.Fabric{Memory: [][]int{nil}}, impl.Fabric{Memory: [][]int{{}}}), true)
	changes := []func(f *impl.Fabric){
		func(f *impl.Fabric) { f.Tree[7].Parent = 2 },
		func(f *impl.Fabric) { f.Tree = f.Tree[:7] },
		func(f *impl.Fabric) { f.Sizes[0]++ },
		func(f *impl.Fabric) { f.Sizes = append(f.Sizes, 0) },
		func(f *impl.Fabric) { f.Windows[7].Size++ },
		func(f *impl.Fabric) { f.Windows[0].Base++ },
		func(f *impl.Fabric) { f.Windows = nil },
		func(f *impl.Fabric) { f.Memory[3][0]++ },
		func(f *impl.Fabric) { f.Memory[7][31]++ },
		func(f *impl.Fabric) { f.Memory[5] = f.Memory[5][:15] },
		func(f *impl.Fabric) { f.Memory[0] = []int{0} },
		func(f *impl.Fabric) { f.Memory = f.Memory[:7] },
		func(f *impl.Fabric) { f.Memory = append(f.Memory, nil) },
		func(f *impl.Fabric) { f.Memory[0], f.Memory[5] = f.Memory[5], f.Memory[0] },
		func(f *impl.Fabric) { f.Guard.Open[3] = true },
		func(f *impl.Fabric) { f.Guard.Open = f.Guard.Open[:7] },
	}
	for i, change := range changes {
		f := sampleFabric()
		change(&f)
		if impl.SameFabric(f, sampleFabric()) || impl.SameFabric(sampleFabric(), f) {
			t.Errorf("SameFabric does not see change %d", i)
		}
	}
}

// TestFabricPromise is promise 38: a read gives back what was written, over
// links that lose and damage frames. The writes and the reads go over one link,
// the replies over another one, back to the requester.
func TestFabricPromise(t *testing.T) {
	n := numbers(438)
	read := 0
	eachFabric(func(f impl.Fabric) {
		f.Guard = guardWithout(len(f.Tree))
		devices := slices.DeleteFunc(devicesIn(f.Tree), func(k int) bool { return f.Sizes[k] == 0 })
		if len(devices) == 0 {
			return
		}
		from, payload := n.below(len(f.Tree)), 1<<n.below(4)
		r := impl.NewRequester(n.below(256))
		var sent []impl.Packet
		var want [][]int
		for range 1 + n.below(8) {
			k := devices[n.below(len(devices))]
			data := sampleData(1 + n.below(8))
			offset := n.below(f.Sizes[k] - len(data) + 1)
			address := f.Windows[k].Base + offset
			next, p, ok := impl.BeginRead(r, address, len(data))
			checkEqual(t, "BeginRead's answer", ok, true)
			r = next
			for i := range data {
				data[i] = n.below(65536)
			}
			sent = append(sent, writeOf(r.Id, address, data...), p)
			want = append(want, data)
			// The write comes to the device that owns the address.
			served, _ := impl.ServePacket(f, from, sent[len(sent)-2], payload)
			checkEqual(t, "the words of the device", served.Memory[k][offset:offset+len(data)], data)
		}
		came, ok := impl.CarryPackets(sent, randomActs(&n, n.below(401)))
		checkEqual(t, "CarryPackets' answer", ok, true)
		checkEqual(t, "what was carried", came, sent)
		for _, p := range came {
			next, answers := impl.ServePacket(f, from, p, payload)
			f = next
			back, ok := impl.CarryPackets(answers, randomActs(&n, n.below(401)))
			checkEqual(t, "CarryPackets' answer", ok, true)
			for _, answer := range back {
				r, ok = impl.HandleAnswer(r, answer)
				checkEqual(t, "HandleAnswer's answer", ok, true)
			}
		}
		checkEqual(t, "FabricOk", impl.FabricOk(f), true)
		checkEqual(t, "the number of reads that ended", len(r.Ended), len(want))
		for i, g := range r.Ended {
			checkEqual(t, "what was read", g.Got, want[i])
			checkEqual(t, "the state of the read", g.State, gtDone)
			read++
		}
	})
	if read < 200 {
		t.Errorf("there were only %d reads", read)
	}
}

// spareFabric is the sample fabric with spare capacity.
func spareFabric() impl.Fabric {
	f := sampleFabric()
	f.Tree = append(f.Tree, impl.Node{Parent: 77})[:8]
	f.Sizes = spareList(f.Sizes...)
	f.Windows = append(f.Windows, impl.Bar{Size: 77})[:8]
	for k, list := range f.Memory {
		f.Memory[k] = spareList(list...)
	}
	f.Memory = append(f.Memory, []int{77})[:8]
	f.Guard.Open = append(f.Guard.Open, true)[:8]
	return f
}

// checkSpareFabric checks that nothing of a spare fabric was changed.
func checkSpareFabric(t *testing.T, f impl.Fabric) {
	t.Helper()
	checkEqual(t, "the tree with what is behind it", f.Tree[:9], append(sampleTree(), impl.Node{Parent: 77}))
	checkSpare(t, "the sizes", f.Sizes, gapSizes()...)
	checkEqual(t, "the windows with what is behind them", f.Windows[:9], append(gapWindows(), impl.Bar{Size: 77}))
	for k, list := range f.Memory {
		checkSpare(t, "the memory", list, sampleFabric().Memory[k]...)
	}
	checkEqual(t, "what is behind the memory", f.Memory[:9][8], []int{77})
	checkEqual(t, "the guard with what is behind it", f.Guard.Open[:9], append(guardWithout(8, 3, 4).Open, true))
}

// overwriteFabric checks that no two lists of a fabric share memory, and changes
// all of it.
func overwriteFabric(t *testing.T, f impl.Fabric) {
	t.Helper()
	checkApart(t, "a list of the fabric", append(slices.Clone(f.Memory), f.Sizes))
	overwriteLists(f.Memory)
	overwrite(f.Sizes)
	f.Tree, f.Windows, f.Guard.Open = f.Tree[:cap(f.Tree)], f.Windows[:cap(f.Windows)], f.Guard.Open[:cap(f.Guard.Open)]
	for k := range f.Tree {
		f.Tree[k] = impl.Node{Parent: -99}
	}
	for k := range f.Windows {
		f.Windows[k] = impl.Bar{Size: -99}
	}
	for k := range f.Guard.Open {
		f.Guard.Open[k] = k%2 == 0
	}
}

func TestFabricMemory(t *testing.T) {
	f := spareFabric()
	data := spareList(5, 6)
	read := impl.Packet{Kind: pkRead, From: 0, Address: 66, Length: 3, Tag: 1}
	write := impl.Packet{Kind: pkWrite, Address: 66, Data: data}
	made, _ := impl.NewFabric(f.Tree, f.Sizes)
	stored, _ := impl.StoreWords(f, 0, 66, data)
	notStored, _ := impl.StoreWords(f, 0, 48, data)
	written, _ := impl.ServePacket(f, 0, write, 4)
	answered, answers := impl.ServePacket(f, 0, read, 1)
	notServed, _ := impl.ServePacket(f, 8, read, 1)
	checkApart(t, "the words of an answer", dataOf(answers))
	for _, result := range []impl.Fabric{made, stored, notStored, written, answered, notServed} {
		overwriteFabric(t, result)
		checkSpareFabric(t, f)
	}
	loaded, _ := impl.LoadWords(f, 0, 66, 3)
	overwrite(loaded)
	overwritePackets(answers)
	impl.TargetOf(f, 0, 66, 3)
	impl.SameFabric(f, f)
	checkSpareFabric(t, f)
	checkSpare(t, "the data", data, 5, 6)

	packets := sparePackets()
	acts := []impl.LinkAct{{Kind: laSend}, {Kind: laDamage, N: 9}, {Kind: laDeliver}, {Kind: 77}}
	came, _ := impl.CarryPackets(packets, acts[:3])
	checkApart(t, "the words of a packet", dataOf(came))
	overwritePackets(came)
	checkSparePackets(t, packets)
	checkEqual(t, "the acts with what is behind them", acts, []impl.LinkAct{{Kind: laSend}, {Kind: laDamage, N: 9}, {Kind: laDeliver}, {Kind: 77}})

	// A fabric that is not valid is copied, too.
	f.Memory[3][0] = -1
	bad, _ := impl.StoreWords(f, 0, 66, data)
	notServed, _ = impl.ServePacket(f, 0, write, 4)
	overwriteFabric(t, bad)
	overwriteFabric(t, notServed)
	checkEqual(t, "the word that is none", f.Memory[3][0], -1)
	f.Memory[3][0] = 3000
	checkSpareFabric(t, f)
}
