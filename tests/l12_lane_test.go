package tests

import (
	"math"
	"slices"
	"testing"

	"loop.example/g00986/impl"
)

var widths = []int{1, 2, 4}

// marked puts a mark in front of each list.
func marked(lanes [][]int) [][]int {
	list := make([][]int, len(lanes))
	for i, lane := range lanes {
		list[i] = append([]int{256}, lane...)
	}
	return list
}

// eachSkew calls check with all ways in which so many lanes can be late.
func eachSkew(width int, check func(skew []int)) {
	total := 1 << (2 * width)
	for n := range total {
		skew := make([]int, width)
		for i := range skew {
			skew[i] = n >> (2 * i) % 4
		}
		check(skew)
	}
}

func checkNotAligned(t *testing.T, lanes [][]int) {
	t.Helper()
	if got, ok := impl.AlignLanes(lanes); ok || got != nil {
		t.Errorf("AlignLanes(%v) = %v, %v, want nil and false", lanes, got, ok)
	}
}

func checkNotJoined(t *testing.T, lanes [][]int) {
	t.Helper()
	if got, ok := impl.JoinLanes(lanes); ok || got != nil {
		t.Errorf("JoinLanes(%v) = %v, %v, want nil and false", lanes, got, ok)
	}
}

func TestLaneConstants(t *testing.T) {
	checkEqual(t, "the constants", []int{impl.MaxLanes, impl.MaxSkew, impl.Mark}, []int{4, 3, 256})
}

func TestIsWidth(t *testing.T) {
	for n := -5; n <= 20; n++ {
		checkEqual(t, "IsWidth("+impl.FormatInt(n)+")", impl.IsWidth(n), n == 1 || n == 2 || n == 4)
	}
	checkEqual(t, "IsWidth of extremes", impl.IsWidth(math.MinInt) || impl.IsWidth(math.MaxInt), false)
}

func TestStripeBytes(t *testing.T) {
	list := []int{1, 2, 3, 4, 5, 6}
	checkEqual(t, "one lane", impl.StripeBytes(list, 1), [][]int{{256, 1, 2, 3, 4, 5, 6}})
	checkEqual(t, "two lanes", impl.StripeBytes(list, 2), [][]int{{256, 1, 3, 5}, {256, 2, 4, 6}})
	checkEqual(t, "four lanes", impl.StripeBytes(list, 4), [][]int{{256, 1, 5}, {256, 2, 6}, {256, 3}, {256, 4}})
	checkEqual(t, "few bytes", impl.StripeBytes([]int{0, 255}, 4), [][]int{{256, 0}, {256, 255}, {256}, {256}})
	for _, width := range widths {
		checkEqual(t, "no bytes", impl.StripeBytes(nil, width), slices.Repeat([][]int{{256}}, width))
	}
}

func TestStripeBytesRejects(t *testing.T) {
	for _, width := range []int{0, -1, 3, 5, 8, math.MinInt, math.MaxInt} {
		if got := impl.StripeBytes([]int{1, 2}, width); got != nil {
			t.Errorf("StripeBytes on %d lanes = %v, want nil", width, got)
		}
	}
	for _, width := range widths {
		for _, b := range notBytes() {
			if got := impl.StripeBytes([]int{1, b}, width); got != nil {
				t.Errorf("StripeBytes of %d = %v, want nil", b, got)
			}
		}
		if got := impl.StripeBytes(make([]int, 41), width); got != nil {
			t.Errorf("StripeBytes of 41 bytes = %v, want nil", got)
		}
	}
}

func TestSkewLanes(t *testing.T) {
	lanes := [][]int{{256, 1}, {}, {256, -7, 1000}, {5}}
	want := [][]int{{256, 1}, {0}, {0, 0, 256, -7, 1000}, {0, 0, 0, 5}}
	checkEqual(t, "SkewLanes", impl.SkewLanes(lanes, []int{0, 1, 2, 3}), want)
	checkEqual(t, "SkewLanes of three lists", impl.SkewLanes(lanes[:3], []int{0, 0, 0}), lanes[:3])
	checkEqual(t, "SkewLanes of nothing", impl.SkewLanes(nil, nil), [][]int{})
	many := slices.Repeat([][]int{{1}}, 50)
	checkEqual(t, "SkewLanes of many lists", impl.SkewLanes(many, make([]int, 50)), many)
}

func TestSkewLanesRejects(t *testing.T) {
	lanes := [][]int{{1}, {2}}
	for _, skew := range [][]int{nil, {0}, {0, 0, 0}, {0, 4}, {4, 0}, {-1, 0}, {0, -1}, {math.MinInt, 0}, {0, math.MaxInt}} {
		if got := impl.SkewLanes(lanes, skew); got != nil {
			t.Errorf("SkewLanes by %v = %v, want nil", skew, got)
		}
	}
	if got := impl.SkewLanes(nil, []int{0}); got != nil {
		t.Errorf("SkewLanes of nothing by one number = %v, want nil", got)
	}
}

func TestAlignLanes(t *testing.T) {
	for _, c := range []struct{ lanes, want [][]int }{
		{[][]int{{256, 1, 2}}, [][]int{{1, 2}}},
		{[][]int{{256}}, [][]int{{}}},
		{[][]int{{0, 0, 0, 256, 9}, {256}}, [][]int{{9}, {}}},
		// Not only zeros may stand in front, and a mark behind the first one is kept.
		{[][]int{{7, -1, 256, 256, 3}, {300, 256, 0, 0, 256}}, [][]int{{256, 3}, {0, 0, 256}}},
		{[][]int{{256, 1}, {0, 256, 2}, {0, 0, 256, 3}, {0, 0, 0, 256, 4}}, [][]int{{1}, {2}, {3}, {4}}},
	} {
		got, ok := impl.AlignLanes(c.lanes)
		checkEqual(t, "AlignLanes' answer", ok, true)
		checkEqual(t, "AlignLanes", got, c.want)
	}
}

func TestAlignLanesRejects(t *testing.T) {
	for _, number := range []int{0, 3, 5, 8} {
		checkNotAligned(t, slices.Repeat([][]int{{256}}, number))
	}
	for _, late := range [][]int{nil, {}, {0}, {0, 0, 0, 0, 256}, {1, 2, 3}, {255, 257, -256, 512}, {0, 0, 0, 0, 0, 0, 256, 1}} {
		for _, width := range widths {
			for i := range width {
				lanes := slices.Repeat([][]int{{256, 1}}, width)
				lanes[i] = late
				checkNotAligned(t, lanes)
			}
		}
	}
}

func TestJoinLanes(t *testing.T) {
	for _, c := range []struct {
		lanes [][]int
		want  []int
	}{
		{[][]int{{1, 2, 3}}, []int{1, 2, 3}},
		{[][]int{{1, 3}, {2, 4}}, []int{1, 2, 3, 4}},
		{[][]int{{1, 3}, {2}}, []int{1, 2, 3}},
		{[][]int{{0, 255}, {1}, {2}, {3}}, []int{0, 1, 2, 3, 255}},
		{[][]int{{1}, {}, {}, {}}, []int{1}},
		{[][]int{nil}, nil},
		{[][]int{{}, {}, {}, {}}, nil},
	} {
		got, ok := impl.JoinLanes(c.lanes)
		checkEqual(t, "JoinLanes' answer", ok, true)
		checkEqual(t, "JoinLanes", got, c.want)
	}
}

func TestJoinLanesRejects(t *testing.T) {
	for _, number := range []int{0, 3, 5, 8} {
		checkNotJoined(t, make([][]int, number))
		checkNotJoined(t, slices.Repeat([][]int{{1}}, number))
	}
	for _, lanes := range [][][]int{
		{{}, {1}}, {{1}, {2, 3}}, {{1, 2, 3}, {4}}, {{1}, {}, {2}, {}}, {{1}, {2}, {3, 4}, {5}}, {{1, 2}, {3}, {4}, {}},
		{{1, 2}, {3}, {4}, {5, 6}}, {{1, 2, 3, 4}, {}, {}, {}}, {{1, 256}}, {{1}, {-1}}, {{256}}, {{math.MaxInt}, {1}},
	} {
		checkNotJoined(t, lanes)
	}
	checkNotJoined(t, [][]int{make([]int, 41)})
	checkNotJoined(t, [][]int{make([]int, 21), make([]int, 20)})
	checkNotJoined(t, [][]int{make([]int, 11), make([]int, 10), make([]int, 10), make([]int, 10)})
}

// TestJoinLanesAndStripeBytes checks for many lists of lists that JoinLanes
// gives the bytes of which StripeBytes makes them, and only these.
func TestJoinLanesAndStripeBytes(t *testing.T) {
	n := numbers(12)
	joined := 0
	for range 3000 {
		lanes := make([][]int, n.below(6))
		for i := range lanes {
			lanes[i] = n.bytes(n.below(3))
		}
		got, ok := impl.JoinLanes(lanes)
		if !ok {
			continue
		}
		joined++
		checkEqual(t, "StripeBytes of what was joined", impl.StripeBytes(got, len(lanes)), marked(lanes))
	}
	if joined < 300 {
		t.Errorf("only %d of the lists were joined", joined)
	}
}

func TestReverseLanes(t *testing.T) {
	checkEqual(t, "ReverseLanes", impl.ReverseLanes([][]int{{1, 2}, {}, {-3, 999}}), [][]int{{-3, 999}, {}, {1, 2}})
	checkEqual(t, "ReverseLanes of one", impl.ReverseLanes([][]int{{1, 2}}), [][]int{{1, 2}})
	checkEqual(t, "ReverseLanes of nothing", impl.ReverseLanes(nil), [][]int{})
	for size := range 10 {
		lanes := make([][]int, size)
		for i := range lanes {
			lanes[i] = []int{i}
		}
		got := impl.ReverseLanes(lanes)
		for i := range got {
			checkEqual(t, "ReverseLanes", got[i], lanes[size-1-i])
		}
		checkEqual(t, "ReverseLanes twice", impl.ReverseLanes(got), lanes)
	}
}

// TestLanePromise is promise 12: bytes on several lanes are put together again,
// however late each lane is.
func TestLanePromise(t *testing.T) {
	n := numbers(112)
	for _, width := range widths {
		eachSkew(width, func(skew []int) {
			list := n.bytes(n.below(41))
			aligned, ok := impl.AlignLanes(impl.SkewLanes(impl.StripeBytes(list, width), skew))
			got, is := impl.JoinLanes(aligned)
			if !ok || !is {
				t.Fatalf("width %d, skew %v: AlignLanes and JoinLanes return %v, %v", width, skew, ok, is)
			}
			checkEqual(t, "what was put together", got, list)
		})
		for size := 0; size <= 40; size++ {
			list := n.bytes(size)
			aligned, _ := impl.AlignLanes(impl.StripeBytes(list, width))
			got, _ := impl.JoinLanes(aligned)
			checkEqual(t, "what was put together", got, list)
		}
	}
}

func TestLanesOfOneResultAreApart(t *testing.T) {
	same := []int{0, 256, 3}
	lanes := [][]int{same, same}
	aligned, _ := impl.AlignLanes(lanes)
	for _, result := range [][][]int{
		impl.StripeBytes([]int{1, 2, 3, 4, 5}, 4), impl.SkewLanes(lanes, []int{0, 0}), aligned, impl.ReverseLanes(lanes),
	} {
		checkApart(t, "a lane after the others were overwritten", result)
	}
	checkEqual(t, "the list that was given twice", same, []int{0, 256, 3})
}

func TestLaneMemory(t *testing.T) {
	list := spareList(1, 2, 3)
	overwriteLists(impl.StripeBytes(list, 2))
	checkSpare(t, "the bytes", list, 1, 2, 3)

	lanes := make([][]int, 2, 4)
	lanes[0], lanes[1] = spareList(256, 5), spareList(256, 6)
	skew := spareList(0, 0)
	aligned, _ := impl.AlignLanes(lanes)
	for _, result := range [][][]int{impl.SkewLanes(lanes, skew), aligned, impl.ReverseLanes(lanes)} {
		overwriteLists(result)
		checkSpare(t, "the first lane", lanes[0], 256, 5)
		checkSpare(t, "the second lane", lanes[1], 256, 6)
		checkSpare(t, "the skew", skew, 0, 0)
		checkEqual(t, "what is behind the lanes", lanes[2:4], make([][]int, 2))
	}

	one := [][]int{spareList(5, 6)}
	joined, _ := impl.JoinLanes(one)
	overwrite(joined)
	checkSpare(t, "the only lane", one[0], 5, 6)
}
