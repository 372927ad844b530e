package tests

import (
	"math"
	"slices"
	"testing"

	"loop.example/g00986/impl"
)

const (
	svCorrected = 0
	svContained = 1
	svFatal     = 2
)

func sampleSeverity() []int {
	return []int{0, 2, 1, 0, 1, 2, 0, 0, 1, 1, 0, 2, 0, 0, 1, 2}
}

// sampleLog has the errors 4, 8 and 15, of which 8 came first and 15 is masked.
func sampleLog() impl.Log {
	return impl.Log{Status: 1<<4 | 1<<8 | 1<<15, Mask: 1<<15 | 1<<1, First: 8, Severity: sampleSeverity()}
}

func emptyLog() impl.Log {
	return impl.Log{First: -1, Severity: make([]int, 16)}
}

// badLogs are logs that are not valid, each for one reason.
func badLogs() []impl.Log {
	bad := []impl.Log{{}}
	change := func(change func(l *impl.Log)) {
		l := sampleLog()
		change(&l)
		bad = append(bad, l)
	}
	for _, n := range []int{-1, 65536, 65536 + 1<<8, math.MinInt, math.MaxInt} {
		change(func(l *impl.Log) { l.Status = n })
		change(func(l *impl.Log) { l.Mask = n })
	}
	for _, first := range []int{-1, 0, 7, 9, 16, 72, math.MinInt, math.MaxInt} {
		change(func(l *impl.Log) { l.First = first })
	}
	for _, first := range []int{-2, 0, 8, 15, 16, math.MinInt, math.MaxInt} {
		l := emptyLog()
		l.First = first
		bad = append(bad, l)
	}
	for _, severity := range [][]int{nil, sampleSeverity()[:15], append(sampleSeverity(), 0)} {
		change(func(l *impl.Log) { l.Severity = severity })
	}
	for _, k := range []int{0, 8, 15} {
		for _, severity := range []int{-1, 3, math.MinInt, math.MaxInt} {
			change(func(l *impl.Log) { l.Severity[k] = severity })
		}
	}
	return bad
}

// errorsIn are the errors whose bit is set, in ascending order.
func errorsIn(word int) []int {
	var list []int
	for k := range 16 {
		if word>>k&1 == 1 {
			list = append(list, k)
		}
	}
	return list
}

// randomLog is a valid log; one in four has no errors.
func randomLog(n *numbers) impl.Log {
	l := impl.Log{Status: n.below(65536) & n.below(65536), Mask: n.below(65536), First: -1, Severity: make([]int, 16)}
	for k := range l.Severity {
		l.Severity[k] = n.below(3)
	}
	if n.below(4) == 0 {
		l.Status = 0
	}
	if set := errorsIn(l.Status); len(set) > 0 {
		l.First = set[n.below(len(set))]
	}
	return l
}

func checkReported(t *testing.T, l impl.Log, k int, want impl.Log, severity int) {
	t.Helper()
	got, s := impl.ReportError(l, k)
	checkEqual(t, "ReportError's severity", s, severity)
	checkEqual(t, "ReportError", got, want)
	checkEqual(t, "LogOk", impl.LogOk(got), impl.LogOk(l))
}

func checkCleared(t *testing.T, l impl.Log, bits int, status int, first int) {
	t.Helper()
	want := l
	want.Status, want.First = status, first
	got := impl.ClearErrors(l, bits)
	checkEqual(t, "ClearErrors", got, want)
	checkEqual(t, "LogOk", impl.LogOk(got), true)
}

func TestLogOk(t *testing.T) {
	got := []int{impl.MaxErrors, impl.SvCorrected, impl.SvContained, impl.SvFatal}
	checkEqual(t, "constants", got, []int{16, 0, 1, 2})
	checkEqual(t, "LogOk", impl.LogOk(emptyLog()), true)
	for _, first := range []int{4, 8, 15} {
		l := sampleLog()
		l.First = first
		checkEqual(t, "LogOk", impl.LogOk(l), true)
	}
	for first := range 16 {
		l := impl.Log{Status: 65535, Mask: 65535, First: first, Severity: slices.Repeat([]int{2}, 16)}
		checkEqual(t, "LogOk", impl.LogOk(l), true)
		l.Status = 1 << first
		checkEqual(t, "LogOk", impl.LogOk(l), true)
		l.Status = 65535 - 1<<first
		checkEqual(t, "LogOk of another first error", impl.LogOk(l), false)
	}
}

func TestInvalidLogsStay(t *testing.T) {
	for _, l := range badLogs() {
		checkEqual(t, "LogOk", impl.LogOk(l), false)
		for k := -1; k <= 16; k++ {
			checkReported(t, l, k, l, -1)
		}
		for _, bits := range []int{0, 1 << 8, 65535} {
			checkEqual(t, "ClearErrors", impl.ClearErrors(l, bits), l)
		}
		checkEqual(t, "WorstOf", impl.WorstOf(l), -1)
	}
}

func TestReportError(t *testing.T) {
	for k := range 16 {
		// The first error of an empty log, and a further one.
		want := emptyLog()
		want.Severity = sampleSeverity()
		l := want
		want.Status, want.First = 1<<k, k
		checkReported(t, l, k, want, sampleSeverity()[k])
		l.Mask, want.Mask = 1<<k, 1<<k
		checkReported(t, l, k, want, -1)
		l.Mask, want.Mask = 65535-1<<k, 65535-1<<k
		checkReported(t, l, k, want, sampleSeverity()[k])

		want = sampleLog()
		want.Status |= 1 << k
		severity := sampleSeverity()[k]
		if k == 15 || k == 1 {
			severity = -1
		}
		checkReported(t, sampleLog(), k, want, severity)
	}
	for _, k := range []int{-1, 16, 17, 64, -16, math.MinInt, math.MaxInt} {
		checkReported(t, sampleLog(), k, sampleLog(), -1)
		checkReported(t, emptyLog(), k, emptyLog(), -1)
	}
}

// TestClearingTheFirstError lets the least one that is left be the first one.
func TestClearingTheFirstError(t *testing.T) {
	checkCleared(t, sampleLog(), 1<<8, 1<<4|1<<15, 4)
	checkCleared(t, sampleLog(), 1<<8|1<<4, 1<<15, 15)
	checkCleared(t, sampleLog(), 1<<8|1<<15, 1<<4, 4)
	checkCleared(t, sampleLog(), 1<<8|1<<4|1<<15, 0, -1)
	checkCleared(t, sampleLog(), 65535, 0, -1)
	// A masked error can be the first one.
	l := sampleLog()
	l.Mask = 65535
	checkCleared(t, l, 1<<8, 1<<4|1<<15, 4)
	// Then, the next error that is reported is not the first one, unless all
	// errors were cleared.
	some, _ := impl.ReportError(impl.ClearErrors(sampleLog(), 1<<8), 2)
	checkEqual(t, "the first error", some.First, 4)
	again, _ := impl.ReportError(impl.ClearErrors(sampleLog(), 1<<8), 8)
	checkEqual(t, "the first error", again.First, 4)
	none, _ := impl.ReportError(impl.ClearErrors(sampleLog(), 65535), 11)
	checkEqual(t, "the first error", none.First, 11)
}

func TestClearErrors(t *testing.T) {
	checkCleared(t, sampleLog(), 0, sampleLog().Status, 8)
	checkCleared(t, sampleLog(), 65535-sampleLog().Status, sampleLog().Status, 8)
	checkCleared(t, sampleLog(), 1<<4, 1<<8|1<<15, 8)
	checkCleared(t, sampleLog(), 1<<15|1, 1<<4|1<<8, 8)
	checkCleared(t, sampleLog(), 65535-1<<8, 1<<8, 8)
	for _, bits := range []int{0, 1, 65535} {
		checkCleared(t, emptyLog(), bits, 0, -1)
	}
	for _, bits := range []int{-1, 65536, 65536 + 1<<8, math.MinInt, math.MaxInt} {
		checkEqual(t, "ClearErrors of no bits", impl.ClearErrors(sampleLog(), bits), sampleLog())
	}
	n := numbers(32)
	for range 500 {
		l, bits := randomLog(&n), n.below(65536)
		first, left := l.First, errorsIn(l.Status&^bits)
		if len(left) == 0 {
			first = -1
		} else if !slices.Contains(left, first) {
			first = left[0]
		}
		checkCleared(t, l, bits, l.Status&^bits, first)
	}
}

func TestWorstOf(t *testing.T) {
	checkEqual(t, "WorstOf", impl.WorstOf(sampleLog()), svContained)
	checkEqual(t, "WorstOf no errors", impl.WorstOf(emptyLog()), -1)
	for _, c := range []struct{ status, mask, want int }{
		{1 << 0, 0, svCorrected}, {1 << 0, 1 << 0, -1}, {1<<0 | 1<<1, 1 << 1, svCorrected}, {1<<0 | 1<<1, 0, svFatal},
		{1<<2 | 1<<0, 0, svContained}, {1 << 15, 32767, svFatal}, {65535, 65535, -1}, {65535, 0, svFatal},
	} {
		l := impl.Log{Status: c.status, Mask: c.mask, First: errorsIn(c.status)[0], Severity: sampleSeverity()}
		checkEqual(t, "WorstOf", impl.WorstOf(l), c.want)
	}
	n := numbers(132)
	for range 500 {
		l, want := randomLog(&n), -1
		for _, k := range errorsIn(l.Status &^ l.Mask) {
			want = max(want, l.Severity[k])
		}
		checkEqual(t, "WorstOf", impl.WorstOf(l), want)
	}
}

func TestSeverityName(t *testing.T) {
	for s, name := range []string{"corrected", "contained", "fatal"} {
		checkEqual(t, "SeverityName", impl.SeverityName(s), name)
	}
	for _, s := range []int{-1, 3, 4, math.MinInt, math.MaxInt} {
		checkEqual(t, "SeverityName", impl.SeverityName(s), "")
	}
}

// TestErrorPromise is promise 32: the first error stays the first, until it is
// cleared.
func TestErrorPromise(t *testing.T) {
	n := numbers(232)
	kept, changed := 0, 0
	for range 100 {
		l := impl.Log{Mask: n.below(65536), First: -1, Severity: randomLog(&n).Severity}
		first := -1
		for range 60 {
			if n.below(3) > 0 {
				k := n.below(16)
				if first < 0 {
					first = k
				} else {
					kept++
				}
				l, _ = impl.ReportError(l, k)
			} else {
				bits := n.below(65536) & n.below(65536)
				l = impl.ClearErrors(l, bits)
				if first >= 0 && bits>>first&1 == 1 {
					first = append(errorsIn(l.Status), -1)[0]
					changed++
				}
			}
			checkEqual(t, "the first error", l.First, first)
			checkEqual(t, "LogOk", impl.LogOk(l), true)
		}
	}
	if kept < 1000 || changed < 100 {
		t.Errorf("the first error was kept %d times and changed %d times", kept, changed)
	}
}

func TestErrorMemory(t *testing.T) {
	severity := spareList(sampleSeverity()...)
	l := sampleLog()
	l.Severity = severity
	for _, first := range []int{8, -1} {
		// The second time, the log is not valid.
		l.First = first
		reported, _ := impl.ReportError(l, 3)
		masked, _ := impl.ReportError(l, 1)
		not, _ := impl.ReportError(l, 16)
		impl.WorstOf(l)
		for _, result := range []impl.Log{reported, masked, not, impl.ClearErrors(l, 1<<8), impl.ClearErrors(l, -1)} {
			overwrite(result.Severity)
			checkSpare(t, "the severities", severity, sampleSeverity()...)
		}
	}
}
