package tests

import (
	"math"
	"slices"
	"testing"

	"loop.example/g00986/impl"
)

// busyTags are tags of which those are busy whose bit is set.
func busyTags(set int) impl.Tags {
	t := impl.Tags{Busy: make([]bool, 8)}
	for tag := range 8 {
		t.Busy[tag] = set>>tag%2 == 1
	}
	return t
}

// badTags are tags that are not valid.
func badTags() []impl.Tags {
	var bad []impl.Tags
	for _, size := range []int{0, 1, 7, 9, 16, 100} {
		bad = append(bad, impl.Tags{Busy: make([]bool, size)}, impl.Tags{Busy: slices.Repeat([]bool{true}, size)})
	}
	return append(bad, impl.Tags{})
}

func checkNoTag(t *testing.T, tags impl.Tags) {
	t.Helper()
	got, tag := impl.TakeTag(tags)
	checkEqual(t, "TakeTag's tag", tag, -1)
	checkEqual(t, "TakeTag of none", got, tags)
}

func checkNotFree(t *testing.T, tags impl.Tags, tag int) {
	t.Helper()
	got, ok := impl.FreeTag(tags, tag)
	checkEqual(t, "FreeTag's answer", ok, false)
	checkEqual(t, "FreeTag that is not possible", got, tags)
}

func TestNewTags(t *testing.T) {
	checkEqual(t, "NewTags", impl.NewTags(), busyTags(0))
	checkEqual(t, "TagsOk", impl.TagsOk(impl.NewTags()), true)
}

func TestTakeTag(t *testing.T) {
	for set := range 255 {
		least := 0
		for set>>least%2 == 1 {
			least++
		}
		got, tag := impl.TakeTag(busyTags(set))
		checkEqual(t, "TakeTag's tag", tag, least)
		checkEqual(t, "TakeTag", got, busyTags(set|1<<least))
	}
	checkNoTag(t, busyTags(255))
}

func TestFreeTag(t *testing.T) {
	for set := range 256 {
		for tag := range 8 {
			if set>>tag%2 == 0 {
				checkNotFree(t, busyTags(set), tag)
				continue
			}
			got, ok := impl.FreeTag(busyTags(set), tag)
			checkEqual(t, "FreeTag's answer", ok, true)
			checkEqual(t, "FreeTag", got, busyTags(set&^(1<<tag)))
		}
		for _, tag := range []int{-1, 8, 9, math.MinInt, math.MaxInt} {
			checkNotFree(t, busyTags(set), tag)
		}
	}
}

func TestCountBusy(t *testing.T) {
	for set := range 256 {
		checkEqual(t, "CountBusy", impl.CountBusy(busyTags(set)), impl.CountOnes(set))
		checkEqual(t, "TagsOk", impl.TagsOk(busyTags(set)), true)
	}
	// The tags need not be valid.
	for _, tags := range badTags() {
		count := 0
		for _, busy := range tags.Busy {
			if busy {
				count++
			}
		}
		checkEqual(t, "CountBusy", impl.CountBusy(tags), count)
	}
}

func TestInvalidTags(t *testing.T) {
	for _, tags := range badTags() {
		checkEqual(t, "TagsOk", impl.TagsOk(tags), false)
		checkNoTag(t, tags)
		for _, tag := range []int{0, 1, 7, 8, -1} {
			checkNotFree(t, tags, tag)
		}
	}
}

// TestEightRequests get a tag each; a ninth one gets none until a tag is free.
func TestEightRequests(t *testing.T) {
	tags := impl.NewTags()
	for want := range 8 {
		next, tag := impl.TakeTag(tags)
		checkEqual(t, "TakeTag's tag", tag, want)
		checkEqual(t, "CountBusy", impl.CountBusy(next), want+1)
		tags = next
	}
	checkNoTag(t, tags)
	for _, tag := range []int{5, 0, 7} {
		freed, ok := impl.FreeTag(tags, tag)
		checkEqual(t, "FreeTag's answer", ok, true)
		again, taken := impl.TakeTag(freed)
		checkEqual(t, "TakeTag's tag", taken, tag)
		checkNoTag(t, again)
	}
}

// TestTagPromise is promise 28: a tag that is taken was free and is busy then.
func TestTagPromise(t *testing.T) {
	n := numbers(28)
	tags := impl.NewTags()
	var busy [8]bool
	none := 0
	for range 3000 {
		if n.below(5) < 3 {
			next, tag := impl.TakeTag(tags)
			if tag < 0 {
				none++
				checkEqual(t, "CountBusy", impl.CountBusy(next), 8)
			} else {
				checkEqual(t, "whether the tag was busy", busy[tag], false)
				checkEqual(t, "whether the tag is busy", next.Busy[tag], true)
				busy[tag] = true
			}
			tags = next
		} else {
			tag := n.below(8)
			next, ok := impl.FreeTag(tags, tag)
			checkEqual(t, "FreeTag's answer", ok, busy[tag])
			busy[tag] = false
			tags = next
		}
		checkEqual(t, "the tags", tags.Busy, busy)
	}
	if none < 100 {
		t.Errorf("there was no free tag only %d times", none)
	}
}

func TestTagMemory(t *testing.T) {
	for _, set := range []int{0, 5, 255} {
		for _, size := range []int{8, 7} {
			spare := append(busyTags(set).Busy, true, false, true)
			given := impl.Tags{Busy: spare[:size]}
			taken, _ := impl.TakeTag(given)
			freed, _ := impl.FreeTag(given, 2)
			notFreed, _ := impl.FreeTag(given, 9)
			fresh := impl.NewTags()
			for _, result := range []impl.Tags{taken, freed, notFreed, fresh} {
				list := result.Busy[:cap(result.Busy)]
				for i := range list {
					list[i] = !list[i]
				}
				checkEqual(t, "the tags with what is behind them", spare, append(busyTags(set).Busy, true, false, true))
			}
			checkEqual(t, "NewTags once more", impl.NewTags(), busyTags(0))
		}
	}
}
