package tests

import (
	"fmt"
	"math"
	"slices"
	"testing"

	"loop.example/g00986/impl"
)

func notIds() []int {
	return []int{-1, -2, -256, 256, 257, 511, 65535, 65536, math.MinInt, math.MaxInt}
}

func TestIdLimits(t *testing.T) {
	got := []int{impl.MaxBus, impl.MaxDevice, impl.MaxFunction}
	if want := []int{15, 3, 3}; !slices.Equal(got, want) {
		t.Errorf("limits are %v, want %v", got, want)
	}
}

func TestMakeIdRejects(t *testing.T) {
	rejected := [][3]int{
		{16, 0, 0}, {0, 4, 0}, {0, 0, 4}, {-1, 0, 0}, {0, -1, 0}, {0, 0, -1},
		{16, 3, 3}, {15, 4, 3}, {15, 3, 4}, {-1, 3, 3}, {1, -1, 3}, {1, 1, -1}, {0, 1, -4}, {1, -4, 0},
		{math.MinInt, 0, 0}, {0, math.MinInt, 0}, {0, 0, math.MinInt},
		{math.MaxInt, 0, 0}, {0, math.MaxInt, 0}, {0, 0, math.MaxInt},
	}
	for _, r := range rejected {
		if got := impl.MakeId(r[0], r[1], r[2]); got != -1 {
			t.Errorf("MakeId(%d, %d, %d) = %d, want -1", r[0], r[1], r[2], got)
		}
	}
}

func TestIsId(t *testing.T) {
	for id := range 256 {
		if !impl.IsId(id) {
			t.Errorf("IsId(%d) = false", id)
		}
	}
	for _, id := range notIds() {
		if impl.IsId(id) {
			t.Errorf("IsId(%d) = true", id)
		}
	}
}

func TestPartsOfNotIds(t *testing.T) {
	for _, id := range notIds() {
		bus, device, function := impl.BusOf(id), impl.DeviceOf(id), impl.FunctionOf(id)
		if bus != -1 || device != -1 || function != -1 {
			t.Errorf("the parts of %d are %d, %d, %d, want -1", id, bus, device, function)
		}
		if got := impl.FormatId(id); got != "" {
			t.Errorf("FormatId(%d) = %q, want \"\"", id, got)
		}
	}
}

func TestIdExamples(t *testing.T) {
	cases := []struct {
		bus, device, function, id int
		text                      string
	}{
		{0, 0, 0, 0, "0:0.0"}, {0, 0, 1, 1, "0:0.1"}, {0, 1, 0, 4, "0:1.0"}, {1, 0, 0, 16, "1:0.0"},
		{2, 1, 0, 36, "2:1.0"}, {2, 1, 3, 39, "2:1.3"}, {10, 0, 0, 160, "10:0.0"}, {15, 3, 3, 255, "15:3.3"},
	}
	for _, c := range cases {
		if got := impl.MakeId(c.bus, c.device, c.function); got != c.id {
			t.Errorf("MakeId(%d, %d, %d) = %d, want %d", c.bus, c.device, c.function, got, c.id)
		}
		if got := impl.FormatId(c.id); got != c.text {
			t.Errorf("FormatId(%d) = %q, want %q", c.id, got, c.text)
		}
		if got, ok := impl.ParseId(c.text); got != c.id || !ok {
			t.Errorf("ParseId(%q) = %d, %v, want %d, true", c.text, got, ok, c.id)
		}
	}
}

func TestParseIdRejects(t *testing.T) {
	texts := []string{
		"", ":", ".", ":.", "2", "2:", "2:1", "2:1.", "2:.0", ":1.0", "2.1:0", "2.1.0", "2:1:0", "21.0", "1.0",
		"02:1.0", "2:01.0", "2:1.00", "2:1.03", "00:0.0", "0:00.0", "0:0.00", "015:3.3", "001:0.0",
		"16:0.0", "2:4.0", "2:1.4", "2:10.0", "255:0.0", "1000000001:0.0", "18446744073709551616:0.0",
		"-1:0.0", "2:-1.0", "2:1.-1", "-0:0.0", "+2:1.0", "2:+1.0", "2:1.+0", "1:-4.0", "1:0.-1",
		" 2:1.0", "2:1.0 ", "2: 1.0", "2 :1.0", "2:1 .0", "2:1. 0", "2:1.0\n", "2:1.0\x00",
		"2:1.0.0", "2:1.0:0", "2::1.0", "2:1..0", "2:1.0.", "2:1.0:", ":2:1.0",
		"a:1.0", "2:a.0", "2:1.a", "f:3.3", "0x2:1.0", "2;1.0", "2:1,0", "1_0:0.0", "٢:1.0",
	}
	for _, text := range texts {
		if got, ok := impl.ParseId(text); got != 0 || ok {
			t.Errorf("ParseId(%q) = %d, %v, want 0, false", text, got, ok)
		}
	}
}

// TestIdPromise is promise 3: ids are given by their parts and by their texts.
func TestIdPromise(t *testing.T) {
	next := 0
	for bus := range 16 {
		for device := range 4 {
			for function := range 4 {
				checkId(t, next, bus, device, function)
				next++
			}
		}
	}
}

func checkId(t *testing.T, id int, bus int, device int, function int) {
	t.Helper()
	if got := impl.MakeId(bus, device, function); got != id {
		t.Errorf("MakeId(%d, %d, %d) = %d, want %d", bus, device, function, got, id)
	}
	if impl.BusOf(id) != bus || impl.DeviceOf(id) != device || impl.FunctionOf(id) != function {
		t.Errorf("the parts of %d are %d, %d, %d", id, impl.BusOf(id), impl.DeviceOf(id), impl.FunctionOf(id))
	}
	text := fmt.Sprintf("%d:%d.%d", bus, device, function)
	if got := impl.FormatId(id); got != text {
		t.Errorf("FormatId(%d) = %q, want %q", id, got, text)
	}
	if got, ok := impl.ParseId(text); got != id || !ok {
		t.Errorf("ParseId(%q) = %d, %v, want %d, true", text, got, ok, id)
	}
}
