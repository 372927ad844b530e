package tests

import (
	"slices"
	"strings"
	"testing"

	"loop.example/g00986/impl"
)

func checkNotParsed(t *testing.T, line string) {
	t.Helper()
	if a, ok := impl.ParseAct(line); ok || a != (impl.Act{}) {
		t.Errorf("ParseAct(%q) = %+v, %v, want the zero Act, false", line, a, ok)
	}
}

func checkNoScript(t *testing.T, f impl.Fabric, text string) {
	t.Helper()
	if lines, ok := impl.RunScript(f, text); ok || lines != nil {
		t.Errorf("RunScript(%+v, %.80q) = %q, %v, want nil, false", f, text, lines, ok)
	}
}

func checkScript(t *testing.T, f impl.Fabric, text string, want ...string) {
	t.Helper()
	lines, ok := impl.RunScript(f, text)
	if !ok || !slices.Equal(lines, want) {
		t.Errorf("RunScript(.., %.80q) = %q, %v, want %q", text, lines, ok, want)
	}
}

// notLines are lines that are no acts; none of them is ignored.
func notLines() []string {
	return []string{
		"cut", "open", "read 1", "write 1 2", "read", "write", "cut 1 0", "open 1 2", "read 1 2 0", "write 1 2 3 0", "write 1 2 3 4 5",
		"Cut 1", "cuts 1", "cu 1", "completion 1", "1 cut", "1", "-", "cut one", "cut -1", "cut +1", "cut 01", "cut 00", "cut 1.0", "cut 0x1", "cut ,1",
		"cut 12", "open 12", "read 12 0", "write 12 0 0", "read 0 65536", "write 0 65536 0", "write 0 0 65536", "write 0 -1 0", "write 0 0 -0",
		"cut 1000000001", "cut 99999999999999999999", "read 0 00", "write 1 02 3", "write x 2 3", "write 0 x 0", "write 0 0 x",
		"cut\t1", "\tcut 1", "cut 1\r", "cut 1\x00", "cut 1\x7f", "cut \xff", "\r", "\t", "\x00", "\xff", " \x1f ",
		"cut 1" + strings.Repeat(" ", 596), strings.Repeat(" ", 601), strings.Repeat("1 ", 25), strings.Repeat("cut 1 ", 5),
	}
}

func TestFormatAct(t *testing.T) {
	want := []string{
		"write 0 0 0", "write 11 65535 65535", "write 3 70 5", "read 0 0", "read 11 65535", "read 5 70",
		"cut 0", "cut 11", "cut 1", "open 0", "open 11", "open 3",
	}
	for i, a := range validActs() {
		text, ok := impl.FormatAct(a)
		checkEqual(t, "FormatAct's answer", ok, true)
		checkEqual(t, "FormatAct", text, want[i])
	}
	for _, a := range badActs() {
		text, ok := impl.FormatAct(a)
		checkEqual(t, "FormatAct's answer", ok, false)
		checkEqual(t, "FormatAct of no act", text, "")
	}
}

func TestParseAct(t *testing.T) {
	for line, want := range map[string]impl.Act{
		"cut 0": {Kind: acCut}, "cut 11": {Kind: acCut, Node: 11}, "open 3": {Kind: acOpen, Node: 3}, "read 0 0": {Kind: acRead},
		"read 10 65535": {Kind: acRead, Node: 10, A: 65535}, "write 1 2 3": {Kind: acWrite, Node: 1, A: 2, B: 3},
		"write 0 65535 65535": {Kind: acWrite, A: 65535, B: 65535},
		"  write   1  2 3 ":   {Kind: acWrite, Node: 1, A: 2, B: 3}, " cut 1": {Kind: acCut, Node: 1}, "cut 1 ": {Kind: acCut, Node: 1},
		"cut 1" + strings.Repeat(" ", 595): {Kind: acCut, Node: 1},
	} {
		a, ok := impl.ParseAct(line)
		if !ok || a != want {
			t.Errorf("ParseAct(%q) = %+v, %v, want %+v", line, a, ok, want)
		}
	}
	for _, line := range append(notLines(), "", " ", "cut 1\n", "\ncut 1", "cut 1\ncut 2", "cut\n1") {
		checkNotParsed(t, line)
	}
}

// sampleReport is the report of the sample fabric.
func sampleReport(more ...string) []string {
	return append(more, "nodes 8", "buses 4", "room 176", "cut 4", "used 176")
}

func TestRunScript(t *testing.T) {
	checkScript(t, sampleFabric(), "write 0 70 0\nread 2 70\nopen 3\nread 0 130\nread 0 48\nread 0 0\nwrite 0 0 1\ncut 9",
		"0", "0", "1", "3002", "-1", "-2", "2", "0", "nodes 8", "buses 4", "room 176", "cut 3", "used 175")
	checkScript(t, sampleFabric(), "read 0 70", sampleReport("6006")...)
	checkScript(t, sampleFabric(), " read  0 70 \n", sampleReport("6006")...)
	alone, _ := impl.NewFabric(chain(1), []int{0})
	checkScript(t, alone, "cut 1\nread 1 0", "0", "-1", "nodes 1", "buses 1", "room 0", "cut 0", "used 0")
}

// TestEmptyLines are ignored, and so are lines of spaces, unless they are too
// long.
func TestEmptyLines(t *testing.T) {
	for _, text := range []string{"", "\n", "\n\n\n", " ", "  \n \n", strings.Repeat(" ", 600), strings.Repeat("\n", 20000)} {
		checkScript(t, sampleFabric(), text, sampleReport()...)
	}
	for _, text := range []string{"\nread 0 70", "read 0 70\n", "\n\nread 0 70\n\n\n", " \nread 0 70\n  ", "read 0 70\n" + strings.Repeat(" ", 600)} {
		checkScript(t, sampleFabric(), text, sampleReport("6006")...)
	}
	checkScript(t, sampleFabric(), "read 0 70\n\n \nread 0 71\n", sampleReport("6006", "6007")...)
	checkNoScript(t, sampleFabric(), "read 0 70\n"+strings.Repeat(" ", 601))
	checkNoScript(t, sampleFabric(), strings.Repeat(" ", 601)+"\nread 0 70")
	checkNoScript(t, sampleFabric(), "read 0 70\r\n\r\n")
	checkNoScript(t, sampleFabric(), "read 0 70\n\t\n")
}

func TestScriptsThatAreNotRun(t *testing.T) {
	for _, line := range notLines() {
		checkNoScript(t, sampleFabric(), line)
		checkNoScript(t, sampleFabric(), "read 0 70\n"+line)
		checkNoScript(t, sampleFabric(), line+"\nread 0 70\n")
		checkNoScript(t, sampleFabric(), "\n"+line+"\n\n"+line)
	}
	for _, f := range badFabrics() {
		checkNoScript(t, f, "")
		checkNoScript(t, f, "read 0 70\n")
		checkNoScript(t, f, "no act")
	}
}

func TestLimitsOfScripts(t *testing.T) {
	forty := strings.Repeat("read 0 70\n", 40)
	checkScript(t, sampleFabric(), forty, sampleReport(slices.Repeat([]string{"6006"}, 40)...)...)
	checkNoScript(t, sampleFabric(), forty+"read 0 70")
	checkNoScript(t, sampleFabric(), forty+"read 0 70\n")
	checkNoScript(t, sampleFabric(), strings.Repeat("cut 1\n", 3000))
	filled := strings.Repeat("\n", 20000-9) + "read 0 70"
	checkScript(t, sampleFabric(), filled, sampleReport("6006")...)
	checkNoScript(t, sampleFabric(), filled+"\n")
	checkNoScript(t, sampleFabric(), strings.Repeat("\n", 20001))
}

func TestScriptText(t *testing.T) {
	text, ok := impl.ScriptText(validActs()[2:9])
	checkEqual(t, "ScriptText's answer", ok, true)
	checkEqual(t, "ScriptText", text, "write 3 70 5\nread 0 0\nread 11 65535\nread 5 70\ncut 0\ncut 11\ncut 1\n")
	text, ok = impl.ScriptText(nil)
	checkEqual(t, "ScriptText's answer", ok, true)
	checkEqual(t, "ScriptText of nothing", text, "")
	acts := slices.Repeat([]impl.Act{{Kind: acOpen, Node: 3}}, 40)
	text, ok = impl.ScriptText(acts)
	checkEqual(t, "ScriptText's answer", ok, true)
	checkEqual(t, "ScriptText", text, strings.Repeat("open 3\n", 40))
	bad := [][]impl.Act{append(acts, acts[0])}
	for _, a := range badActs() {
		bad = append(bad, []impl.Act{a}, []impl.Act{acts[0], a}, []impl.Act{a, acts[0]})
	}
	for _, acts := range bad {
		text, ok := impl.ScriptText(acts)
		checkEqual(t, "ScriptText's answer", ok, false)
		checkEqual(t, "ScriptText of no acts", text, "")
	}
}

// TestConsolePromise is promise 40: acts can be parsed from their text, and
// scripts can be run.
func TestConsolePromise(t *testing.T) {
	for kind := acWrite; kind <= acOpen; kind++ {
		for node := range 12 {
			for _, n := range []int{0, 1, 9, 10, 99, 100, 999, 1000, 9999, 10000, 65534, 65535} {
				a := impl.Act{Kind: kind, Node: node}
				if kind <= acRead {
					a.A = n
				}
				if kind == acWrite {
					a.B = 65535 - n
				}
				text, ok := impl.FormatAct(a)
				checkEqual(t, "FormatAct's answer", ok, true)
				parsed, ok := impl.ParseAct(text)
				checkEqual(t, "ParseAct's answer", ok, true)
				checkEqual(t, "ParseAct", parsed, a)
			}
		}
	}
	n := numbers(40)
	eachFabric(func(f impl.Fabric) {
		var acts []impl.Act
		for range n.below(41) {
			if a := randomAct(&n); impl.ActOk(a) {
				acts = append(acts, a)
			}
		}
		text, ok := impl.ScriptText(acts)
		checkEqual(t, "ScriptText's answer", ok, true)
		after, list := impl.RunActs(f, acts)
		var want []string
		for _, number := range list {
			want = append(want, impl.FormatInt(number))
		}
		checkScript(t, f, text, append(want, impl.FormatFabric(after)...)...)
		checkScript(t, f, strings.ReplaceAll("\n"+text, "\n", " \n\n  "), append(want, impl.FormatFabric(after)...)...)
	})
}

func TestConsoleMemory(t *testing.T) {
	f := spareFabric()
	acts := append(validActs(), impl.Act{Kind: 77})
	impl.RunScript(f, "write 0 70 9\nopen 3\ncut 1\nread 0 70\n")
	impl.RunScript(f, "write 0 70 9\nno act")
	impl.ScriptText(acts[:12])
	impl.ScriptText(acts)
	checkSpareFabric(t, f)
	checkEqual(t, "the acts with what is behind them", acts, append(validActs(), impl.Act{Kind: 77}))
}
