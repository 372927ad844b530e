package tests

import (
	"bytes"
	"encoding/hex"
	"fmt"
	"math"
	"slices"
	"strings"
	"testing"

	"loop.example/g00986/impl"
)

func everyByte() string {
	all := make([]byte, 256)
	for i := range all {
		all[i] = byte(i)
	}
	return string(all)
}

func TestTextLimits(t *testing.T) {
	got := []int{impl.MaxInputLen, impl.MaxUint, impl.MaxLineLen, impl.MaxFieldsPerLine}
	if want := []int{20000, 1000000000, 600, 24}; !slices.Equal(got, want) {
		t.Errorf("limits are %v, want %v", got, want)
	}
}

func TestHexPairs(t *testing.T) {
	pairs := []struct{ plain, text string }{
		{"", ""},
		{"az", "617a"},
		{"\x00", "00"},
		{"\x0f\xf0", "0ff0"},
		{"\xab\xcd\xef", "abcdef"},
		{"a b\n", "6120620a"},
		{"\u00e9", "c3a9"},
		{everyByte(), hex.EncodeToString([]byte(everyByte()))},
	}
	for _, p := range pairs {
		if got, ok := impl.EncodeHex(p.plain); got != p.text || !ok {
			t.Errorf("EncodeHex(%q) = %q, %v, want %q, true", p.plain, got, ok, p.text)
		}
		if got, ok := impl.DecodeHex(p.text); got != p.plain || !ok {
			t.Errorf("DecodeHex(%q) = %q, %v, want %q, true", p.text, got, ok, p.plain)
		}
	}
}

func TestHexLengthLimit(t *testing.T) {
	longest := strings.Repeat("\xfe", 20000)
	text, ok := impl.EncodeHex(longest)
	if !ok || text != strings.Repeat("fe", 20000) {
		t.Errorf("EncodeHex of 20000 bytes = %d bytes, %v", len(text), ok)
	}
	if got, ok := impl.DecodeHex(strings.Repeat("fe", 20000)); got != longest || !ok {
		t.Errorf("DecodeHex to 20000 bytes = %d bytes, %v", len(got), ok)
	}
	if got, ok := impl.EncodeHex(longest + "a"); got != "" || ok {
		t.Errorf("EncodeHex of 20001 bytes = %d bytes, %v", len(got), ok)
	}
	if got, ok := impl.DecodeHex(strings.Repeat("fe", 20001)); got != "" || ok {
		t.Errorf("DecodeHex to 20001 bytes = %d bytes, %v", len(got), ok)
	}
	if got, ok := impl.DecodeHex(strings.Repeat("fe", 20000) + "f"); got != "" || ok {
		t.Errorf("DecodeHex of 40001 digits = %d bytes, %v", len(got), ok)
	}
}

func TestDecodeHexRejects(t *testing.T) {
	texts := []string{
		"6", "617", "617A", "AB", "aB", "Ab", "0g", "g0", "0x61", "61 7a", " 61", "61 ",
		"-1", "+1", "6/", "6:", "6@", "6`", "616", "61zz", "zz61", "\x00\x00", "6\xc3", "\u00e9",
	}
	for _, text := range texts {
		if got, ok := impl.DecodeHex(text); got != "" || ok {
			t.Errorf("DecodeHex(%q) = %q, %v, want \"\", false", text, got, ok)
		}
	}
}

// TestDecodeHexOfTwoBytes tries every text of two bytes, so that a digit too
// many or too few is noticed in either half.
func TestDecodeHexOfTwoBytes(t *testing.T) {
	for i := range 65536 {
		text := string([]byte{byte(i >> 8), byte(i)})
		want, err := hex.DecodeString(text)
		ok := err == nil && text == strings.ToLower(text)
		if !ok {
			want = nil
		}
		if got, right := impl.DecodeHex(text); got != string(want) || right != ok {
			t.Fatalf("DecodeHex(%q) = %q, %v, want %q, %v", text, got, right, want, ok)
		}
	}
}

func TestFormatInt(t *testing.T) {
	texts := map[int]string{
		0: "0", 5: "5", -5: "-5", 10: "10", -10: "-10", 100: "100", 999999999: "999999999",
		1000000000: "1000000000", 1000000001: "1000000001", -1000000001: "-1000000001",
		math.MaxInt: "9223372036854775807", math.MinInt: "-9223372036854775808",
		math.MinInt + 1: "-9223372036854775807",
	}
	for n, want := range texts {
		if got := impl.FormatInt(n); got != want {
			t.Errorf("FormatInt(%d) = %q, want %q", n, got, want)
		}
	}
}

func TestParseUintReadsBack(t *testing.T) {
	numbers := []int{999, 1000, 65535, 99999999, 100000000, 123456789, 999999999, 1000000000}
	for n := range 300 {
		numbers = append(numbers, n)
	}
	for _, n := range numbers {
		if got, ok := impl.ParseUint(fmt.Sprint(n)); got != n || !ok {
			t.Errorf("ParseUint(%q) = %d, %v", fmt.Sprint(n), got, ok)
		}
	}
}

func TestParseUintRejects(t *testing.T) {
	texts := []string{
		"", "01", "00", "007", "0000000001", "01000000000", "-0", "-1", "-5", "-", "+", "+0", "+1",
		" ", " 1", "1 ", "1 2", "1\n", "1\x00", "1_000", "_1", "0x1", "1e3", "1.0", "1,0", "a", "1a", "a1",
		"/", ":", "\u0661", "\uff11", "1000000001", "1000000010", "2000000000", "9999999999", "10000000000",
		"4294967297", "9223372036854775807", "9223372036854775808", "18446744073709551617",
		"-9223372036854775808", "-18446744073709551615", strings.Repeat("0", 20000), strings.Repeat("9", 20000),
	}
	for _, text := range texts {
		if got, ok := impl.ParseUint(text); got != 0 || ok {
			t.Errorf("ParseUint(%q) = %d, %v, want 0, false", text, got, ok)
		}
	}
}

func checkFields(t *testing.T, line string, want []string) {
	t.Helper()
	if got, ok := impl.SplitFields(line); !slices.Equal(got, want) || !ok {
		t.Errorf("SplitFields(%q) = %q, %v, want %q, true", line, got, ok, want)
	}
}

func checkNoFields(t *testing.T, line string) {
	t.Helper()
	if got, ok := impl.SplitFields(line); len(got) != 0 || ok {
		t.Errorf("SplitFields(%q) = %q, %v, want none, false", line, got, ok)
	}
}

func TestSplitFields(t *testing.T) {
	checkFields(t, "", nil)
	checkFields(t, " ", nil)
	checkFields(t, "     ", nil)
	checkFields(t, "a", []string{"a"})
	checkFields(t, " a", []string{"a"})
	checkFields(t, "a ", []string{"a"})
	checkFields(t, "a b", []string{"a", "b"})
	checkFields(t, " cut  1 ", []string{"cut", "1"})
	checkFields(t, "   write   0 16    65535   ", []string{"write", "0", "16", "65535"})
	checkFields(t, "b a b a", []string{"b", "a", "b", "a"})
	checkFields(t, "~!\"#,;:.'|-_\\ 00", []string{"~!\"#,;:.'|-_\\", "00"})
}

// TestSplitFieldsBytes puts every byte at the beginning, in the middle and at
// the end of a line: only the space divides it, and only 32 to 126 are allowed.
func TestSplitFieldsBytes(t *testing.T) {
	for i := range 256 {
		c := string([]byte{byte(i)})
		lines := []string{c, c + "x y", "x y" + c, "x" + c + "y z"}
		wants := [][]string{{c}, {c + "x", "y"}, {"x", "y" + c}, {"x" + c + "y", "z"}}
		if c == " " {
			wants = [][]string{nil, {"x", "y"}, {"x", "y"}, {"x", "y", "z"}}
		}
		for k, line := range lines {
			if i < 32 || i > 126 {
				checkNoFields(t, line)
			} else {
				checkFields(t, line, wants[k])
			}
		}
	}
}

func TestSplitFieldsLengthLimit(t *testing.T) {
	checkFields(t, strings.Repeat("a", 600), []string{strings.Repeat("a", 600)})
	checkFields(t, strings.Repeat(" ", 600), nil)
	checkFields(t, "a"+strings.Repeat(" ", 598)+"b", []string{"a", "b"})
	checkNoFields(t, strings.Repeat("a", 601))
	checkNoFields(t, strings.Repeat(" ", 601))
	checkNoFields(t, "a"+strings.Repeat(" ", 600))
	checkNoFields(t, strings.Repeat("a", 599)+"\x7f")
	checkNoFields(t, strings.Repeat("a", 600)+"\n")
}

func TestSplitFieldsCountLimit(t *testing.T) {
	var most []string
	for i := range 24 {
		most = append(most, fmt.Sprint(i))
	}
	line := strings.Join(most, " ")
	checkFields(t, line, most)
	checkFields(t, "  "+strings.Join(most, "   ")+"  ", most)
	checkNoFields(t, line+" 24")
	checkNoFields(t, line+" 24 ")
	checkNoFields(t, strings.Repeat("a ", 300))
	checkNoFields(t, line+" \t")
}

func TestSplitFieldsGivesNewMemory(t *testing.T) {
	line := "read 1 2"
	first, _ := impl.SplitFields(line)
	first[0] = "cut"
	checkFields(t, line, []string{"read", "1", "2"})
}

func TestClamp(t *testing.T) {
	cases := []struct{ n, low, high, want int }{
		{0, 1, 5, 1}, {1, 1, 5, 1}, {3, 1, 5, 3}, {5, 1, 5, 5}, {6, 1, 5, 5}, {9, 1, 5, 5},
		{-9, -5, -1, -5}, {-3, -5, -1, -3}, {0, -5, -1, -1}, {7, 2, 2, 2}, {1, 2, 2, 2}, {2, 2, 2, 2},
		{0, 5, 1, 5}, {1, 5, 1, 5}, {3, 5, 1, 5}, {5, 5, 1, 5}, {9, 5, 1, 5}, {0, 0, -1, 0},
		{math.MinInt, math.MinInt, math.MaxInt, math.MinInt},
		{math.MaxInt, math.MinInt, math.MaxInt, math.MaxInt},
		{math.MinInt, 0, 1, 0}, {math.MaxInt, 0, 1, 1},
		{0, math.MaxInt, math.MinInt, math.MaxInt},
	}
	for _, c := range cases {
		if got := impl.Clamp(c.n, c.low, c.high); got != c.want {
			t.Errorf("Clamp(%d, %d, %d) = %d, want %d", c.n, c.low, c.high, got, c.want)
		}
	}
}

// TestTextPromise checks promise 1 as it is worded, on many small arguments.
func TestTextPromise(t *testing.T) {
	for n := range 200 {
		plain := string(bytes.Repeat([]byte{byte(n), byte(255 - n)}, n%5))
		text, _ := impl.EncodeHex(plain)
		if got, ok := impl.DecodeHex(text); got != plain || !ok {
			t.Errorf("DecodeHex(EncodeHex(%q)) = %q, %v", plain, got, ok)
		}
		number := n * n * 25000
		if got, ok := impl.ParseUint(impl.FormatInt(number)); got != number || !ok {
			t.Errorf("ParseUint(FormatInt(%d)) = %d, %v", number, got, ok)
		}
		low, high := n%7-3, n%11-3
		if got := impl.Clamp(n%23-11, low, high); got < low || got > max(low, high) {
			t.Errorf("Clamp(%d, %d, %d) = %d", n%23-11, low, high, got)
		}
	}
}
