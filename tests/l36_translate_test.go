package tests

import (
	"math"
	"slices"
	"testing"

	"loop.example/g00986/impl"
)

const (
	ftNone     = 0
	ftUnmapped = 1
	ftReadOnly = 2
)

// sampleGrants let 16 use the pages 0, 1, 7 and 255 and 17 the pages 0 and 7.
// Both have the page 6, and 16 has the page 9 twice.
func sampleGrants() []impl.PageGrant {
	return []impl.PageGrant{
		{Id: 16, Page: 0, To: 9, Writable: true}, {Id: 16, Page: 1, To: 6}, {Id: 17, Page: 0, To: 6, Writable: true},
		{Id: 16, Page: 7, To: 9}, {Id: 17, Page: 7, To: 255}, {Id: 16, Page: 255, To: 0, Writable: true},
	}
}

// badGrants are grants that are not valid, each for one reason.
func badGrants() [][]impl.PageGrant {
	var bad [][]impl.PageGrant
	for i := range sampleGrants() {
		for _, n := range []int{-1, 256, math.MinInt, math.MaxInt} {
			for field := range 3 {
				list := sampleGrants()
				*[]*int{&list[i].Id, &list[i].Page, &list[i].To}[field] = n
				bad = append(bad, list)
			}
		}
		// The same page twice, also with another To, or not writable.
		g := sampleGrants()[i]
		bad = append(bad, append(sampleGrants(), g))
		g.To, g.Writable = 77, !g.Writable
		bad = append(bad, append(sampleGrants(), g), append([]impl.PageGrant{g}, sampleGrants()...))
	}
	return append(bad, manyGrants(41))
}

func manyGrants(size int) []impl.PageGrant {
	list := make([]impl.PageGrant, size)
	for i := range list {
		list[i] = impl.PageGrant{Id: 3 * i, Page: i % 2, To: 255 - i}
	}
	return list
}

// randomGrants are valid, for few functions and pages.
func randomGrants(n *numbers) []impl.PageGrant {
	var list []impl.PageGrant
	for range n.below(20) {
		g := impl.PageGrant{Id: n.below(3), Page: n.below(5), To: n.below(12), Writable: n.below(2) == 0}
		if !slices.ContainsFunc(list, func(other impl.PageGrant) bool { return other.Id == g.Id && other.Page == g.Page }) {
			list = append(list, g)
		}
	}
	return list
}

// translated follows the description of Translate for valid grants.
func translated(list []impl.PageGrant, id int, address int, write bool) (int, int) {
	for _, g := range list {
		from := g.Page * 256
		if g.Id != id || address < from || address > from+255 {
			continue
		}
		if write && !g.Writable {
			return 0, ftReadOnly
		}
		return address - from + g.To*256, ftNone
	}
	return 0, ftUnmapped
}

// rangeTranslated follows the description of TranslateRange for valid grants,
// addresses and lengths.
func rangeTranslated(list []impl.PageGrant, id int, address int, length int, write bool) ([]int, int) {
	var all []int
	for a := address; a < address+length; a++ {
		to, code := translated(list, id, a, write)
		if code != ftNone {
			return nil, code
		}
		all = append(all, to)
	}
	return all, ftNone
}

func checkTranslated(t *testing.T, list []impl.PageGrant, id int, address int, write bool, want int, code int) {
	t.Helper()
	if got, c := impl.Translate(list, id, address, write); got != want || c != code {
		t.Errorf("Translate(%+v, %d, %d, %v) = %d, %d, want %d, %d", list, id, address, write, got, c, want, code)
	}
}

func checkRange(t *testing.T, list []impl.PageGrant, id int, address int, length int, write bool, want []int, code int) {
	t.Helper()
	got, c := impl.TranslateRange(list, id, address, length, write)
	if !slices.Equal(got, want) || c != code {
		t.Errorf("TranslateRange(%+v, %d, %d, %d, %v) = %v, %d, want %v, %d", list, id, address, length, write, got, c, want, code)
	}
	if code != ftNone && got != nil {
		t.Errorf("TranslateRange with code %d = %v, want nil", code, got)
	}
}

func upFrom(address int, size int) []int {
	list := make([]int, size)
	for i := range list {
		list[i] = address + i
	}
	return list
}

func TestGrantsOk(t *testing.T) {
	got := []int{impl.PageWords, impl.Pages, impl.FtNone, impl.FtUnmapped, impl.FtReadOnly}
	checkEqual(t, "constants", got, []int{256, 256, 0, 1, 2})
	for _, list := range [][]impl.PageGrant{nil, {}, {{}}, {{Id: 255, Page: 255, To: 255}}, sampleGrants(), manyGrants(40)} {
		if !impl.GrantsOk(list) {
			t.Errorf("GrantsOk(%+v) = false", list)
		}
	}
}

func TestInvalidGrants(t *testing.T) {
	for _, list := range badGrants() {
		if impl.GrantsOk(list) {
			t.Errorf("GrantsOk(%+v) = true", list)
		}
		for _, id := range []int{0, 16, 17} {
			for _, write := range []bool{false, true} {
				checkTranslated(t, list, id, 10, write, 0, ftUnmapped)
				checkRange(t, list, id, 10, 3, write, nil, ftUnmapped)
				checkRange(t, list, id, 300, 1, write, nil, ftUnmapped)
			}
		}
		checkEqual(t, "IsIsolated", impl.IsIsolated(list, 200, 201), false)
	}
}

func TestTranslate(t *testing.T) {
	for _, c := range []struct {
		id, address int
		write       bool
		want, code  int
	}{
		{16, 0, true, 2304, ftNone}, {16, 10, false, 2314, ftNone}, {16, 255, true, 2559, ftNone}, {16, 256, false, 1536, ftNone},
		{16, 256, true, 0, ftReadOnly}, {16, 511, true, 0, ftReadOnly}, {16, 511, false, 1791, ftNone}, {16, 512, false, 0, ftUnmapped},
		{16, 512, true, 0, ftUnmapped}, {17, 5, true, 1541, ftNone}, {17, 256, false, 0, ftUnmapped}, {17, 1792, false, 65280, ftNone},
		{17, 2047, false, 65535, ftNone}, {17, 2047, true, 0, ftReadOnly}, {16, 65535, true, 255, ftNone}, {16, 65280, false, 0, ftNone},
		{17, 65535, false, 0, ftUnmapped}, {0, 0, false, 0, ftUnmapped}, {18, 10, true, 0, ftUnmapped},
	} {
		checkTranslated(t, sampleGrants(), c.id, c.address, c.write, c.want, c.code)
	}
	for _, address := range []int{-1, -255, -256, 65536, 65537, math.MinInt, math.MaxInt} {
		for _, write := range []bool{false, true} {
			checkTranslated(t, sampleGrants(), 16, address, write, 0, ftUnmapped)
			checkTranslated(t, sampleGrants(), 17, address, write, 0, ftUnmapped)
		}
	}
	for _, id := range notIds() {
		checkTranslated(t, sampleGrants(), id, 10, false, 0, ftUnmapped)
	}
	checkTranslated(t, nil, 16, 10, false, 0, ftUnmapped)
	for i, g := range manyGrants(40) {
		checkTranslated(t, manyGrants(40), g.Id, 256*g.Page+i, false, 256*g.To+i, ftNone)
	}
}

// TestRangesOverTwoPages are translated page by page: the pages need not lie
// beside each other, and the first word that is refused decides.
func TestRangesOverTwoPages(t *testing.T) {
	list := []impl.PageGrant{
		{Id: 16, Page: 0, To: 9, Writable: true}, {Id: 16, Page: 1, To: 6}, {Id: 16, Page: 3, To: 1}, {Id: 16, Page: 4, To: 1, Writable: true},
	}
	checkRange(t, list, 16, 254, 4, false, []int{2558, 2559, 1536, 1537}, ftNone)
	checkRange(t, list, 16, 255, 2, false, []int{2559, 1536}, ftNone)
	checkRange(t, list, 16, 200, 64, false, append(upFrom(2504, 56), upFrom(1536, 8)...), ftNone)
	// Two pages can be the same one behind the grants.
	checkRange(t, list, 16, 1022, 4, false, []int{510, 511, 256, 257}, ftNone)
	// Not writable, then writable, and the reverse.
	checkRange(t, list, 16, 1022, 4, true, nil, ftReadOnly)
	checkRange(t, list, 16, 254, 4, true, nil, ftReadOnly)
	checkRange(t, list, 16, 254, 2, true, []int{2558, 2559}, ftNone)
	checkRange(t, list, 16, 1024, 2, true, []int{256, 257}, ftNone)
	// Not mapped, then not writable, and the reverse.
	checkRange(t, list, 16, 766, 4, true, nil, ftUnmapped)
	checkRange(t, list, 16, 510, 4, true, nil, ftReadOnly)
	checkRange(t, list, 16, 510, 4, false, nil, ftUnmapped)
	checkRange(t, list, 16, 510, 2, false, []int{1790, 1791}, ftNone)
	checkRange(t, list, 16, 766, 4, false, nil, ftUnmapped)
	checkRange(t, list, 16, 1278, 4, false, nil, ftUnmapped)
}

func TestTranslateRange(t *testing.T) {
	checkRange(t, sampleGrants(), 16, 0, 64, true, upFrom(2304, 64), ftNone)
	checkRange(t, sampleGrants(), 16, 0, 1, true, []int{2304}, ftNone)
	// The last page ends with the last address.
	checkRange(t, sampleGrants(), 16, 65535, 1, true, []int{255}, ftNone)
	checkRange(t, sampleGrants(), 16, 65472, 64, true, upFrom(192, 64), ftNone)
	checkRange(t, sampleGrants(), 16, 65473, 64, true, nil, ftUnmapped)
	checkRange(t, sampleGrants(), 16, 65535, 2, true, nil, ftUnmapped)
	readOnly := []impl.PageGrant{{Id: 16, Page: 255, To: 3}}
	checkRange(t, readOnly, 16, 65535, 2, true, nil, ftReadOnly)
	checkRange(t, readOnly, 16, 65535, 2, false, nil, ftUnmapped)
	for _, length := range []int{0, -1, 65, math.MinInt, math.MaxInt} {
		checkRange(t, sampleGrants(), 16, 10, length, false, nil, ftUnmapped)
		checkRange(t, sampleGrants(), 16, 256, length, true, nil, ftUnmapped)
	}
	for _, address := range []int{-1, -3, 65536, math.MinInt, math.MaxInt} {
		for _, length := range []int{1, 4, 64} {
			checkRange(t, sampleGrants(), 16, address, length, false, nil, ftUnmapped)
			checkRange(t, readOnly, 16, address, length, true, nil, ftUnmapped)
		}
	}
	n := numbers(36)
	good, refused := 0, 0
	for range 3000 {
		list, id, address, length, write := randomGrants(&n), n.below(3), n.below(1500), 1+n.below(64), n.below(2) == 0
		want, code := rangeTranslated(list, id, address, length, write)
		checkRange(t, list, id, address, length, write, want, code)
		to, code := translated(list, id, address, write)
		checkTranslated(t, list, id, address, write, to, code)
		if want != nil {
			good++
		} else {
			refused++
		}
	}
	if good < 300 || refused < 300 {
		t.Errorf("%d ranges were translated and %d refused", good, refused)
	}
}

func TestIsIsolated(t *testing.T) {
	checkEqual(t, "IsIsolated", impl.IsIsolated(sampleGrants(), 16, 17), false)
	checkEqual(t, "IsIsolated", impl.IsIsolated(sampleGrants(), 17, 16), false)
	checkEqual(t, "IsIsolated", impl.IsIsolated(impl.RevokePage(sampleGrants(), 6), 16, 17), true)
	// A function is not isolated from itself, unless it has no page.
	checkEqual(t, "IsIsolated", impl.IsIsolated(sampleGrants(), 16, 16), false)
	checkEqual(t, "IsIsolated", impl.IsIsolated(sampleGrants(), 17, 17), false)
	for _, id := range append(notIds(), 0, 18, 255) {
		checkEqual(t, "IsIsolated", impl.IsIsolated(sampleGrants(), id, 16), true)
		checkEqual(t, "IsIsolated", impl.IsIsolated(sampleGrants(), 17, id), true)
		checkEqual(t, "IsIsolated", impl.IsIsolated(sampleGrants(), id, id), true)
		checkEqual(t, "IsIsolated", impl.IsIsolated(nil, id, 16), true)
	}
	// It is To that counts, not Page.
	checkEqual(t, "IsIsolated", impl.IsIsolated([]impl.PageGrant{{Id: 1, Page: 5, To: 5}, {Id: 2, Page: 5, To: 6}}, 1, 2), true)
	checkEqual(t, "IsIsolated", impl.IsIsolated([]impl.PageGrant{{Id: 1, Page: 5, To: 255}, {Id: 2, Page: 6, To: 255}}, 1, 2), false)
}

func TestRevokePage(t *testing.T) {
	all := sampleGrants()
	checkEqual(t, "RevokePage", impl.RevokePage(all, 9), []impl.PageGrant{all[1], all[2], all[4], all[5]})
	checkEqual(t, "RevokePage", impl.RevokePage(all, 6), []impl.PageGrant{all[0], all[3], all[4], all[5]})
	checkEqual(t, "RevokePage", impl.RevokePage(all, 0), all[:5])
	for _, page := range []int{1, 7, -1, 256, math.MinInt, math.MaxInt} {
		checkEqual(t, "RevokePage", impl.RevokePage(all, page), all)
	}
	checkEqual(t, "RevokePage", impl.RevokePage(nil, 0), []impl.PageGrant{})
	// The grants need not be valid.
	odd := []impl.PageGrant{{Id: -1, To: -7}, {Id: 16, To: 3}, {Id: 16, To: 3}, {Id: 16, To: 900}}
	checkEqual(t, "RevokePage", impl.RevokePage(odd, 3), []impl.PageGrant{odd[0], odd[3]})
	checkEqual(t, "RevokePage", impl.RevokePage(odd, -7), odd[1:])
	checkEqual(t, "RevokePage", impl.RevokePage(odd, 900), odd[:3])
}

// TestTranslationPromise is promise 36: functions that are isolated never reach
// the same address; those that are not do. No function reaches an address of a
// page that was revoked.
func TestTranslationPromise(t *testing.T) {
	n := numbers(136)
	isolated, not := 0, 0
	for range 400 {
		list := randomGrants(&n)
		page := n.below(12)
		left := impl.RevokePage(list, page)
		offset := n.below(256)
		var reached [3][]int
		for id := range 3 {
			for address := offset; address < 65536; address += 256 {
				if to, code := impl.Translate(list, id, address, false); code == ftNone {
					reached[id] = append(reached[id], to)
				}
				to, code := impl.Translate(left, id, address, false)
				if code == ftNone && to/256 == page {
					t.Errorf("%d reaches %d, although page %d was revoked", id, to, page)
				}
			}
		}
		for a := range 3 {
			for b := range 3 {
				common := slices.ContainsFunc(reached[a], func(to int) bool { return slices.Contains(reached[b], to) })
				checkEqual(t, "IsIsolated", impl.IsIsolated(list, a, b), !common)
				if common {
					not++
				} else {
					isolated++
				}
			}
		}
	}
	if isolated < 500 || not < 500 {
		t.Errorf("%d pairs of functions are isolated and %d are not", isolated, not)
	}
}

func TestTranslationMemory(t *testing.T) {
	want := append(sampleGrants(), impl.PageGrant{Id: 77}, impl.PageGrant{Id: 78})
	spare := slices.Clone(want)
	list := spare[:6]
	impl.GrantsOk(list)
	impl.Translate(list, 16, 10, true)
	impl.IsIsolated(list, 16, 17)
	to, _ := impl.TranslateRange(list, 16, 254, 4, false)
	overwrite(to)
	for _, page := range []int{0, 9, 1} {
		left := impl.RevokePage(list, page)
		left = left[:cap(left)]
		for i := range left {
			left[i] = impl.PageGrant{Id: -99}
		}
	}
	checkEqual(t, "the grants with what is behind them", spare, want)
}
