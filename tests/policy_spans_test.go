package tests

import (
	"math"
	"math/rand"
	"slices"
	"testing"

	"loop.example/s0047/impl"
)

var markSpan = impl.Span{Page: -9, Count: -9, Out: -9, Perm: -9, Huge: true}

// checkValid also asks that the list stays as it is, and that At says nothing by
// a list that is not valid.
func checkValid(t *testing.T, name string, s []impl.Span, want bool) {
	t.Helper()
	arg := roomyList(s, markSpan)
	if got := impl.ValidSpans(arg); got != want {
		t.Errorf("%s: %v: valid %t, want %t", name, s, got, want)
	}
	for _, span := range s {
		for _, page := range []int{0, span.Page, span.Page + 1, span.Page + 15, 4095} {
			if hit := impl.At(arg, page); !want && hit != (impl.Hit{}) {
				t.Errorf("%s: %v is not valid, but says %v of page %d", name, s, hit, page)
			}
		}
	}
	if !slices.Equal(arg, s) || !marksStand(arg, markSpan) {
		t.Errorf("%s: %v became %v", name, s, arg)
	}
}

func TestValidSpansNone(t *testing.T) {
	checkValid(t, "nil", nil, true)
	checkValid(t, "empty", []impl.Span{}, true)
}

type spanRow struct {
	name string
	span impl.Span
}

func justValidSpans() []spanRow {
	rows := []spanRow{
		{"count 1", impl.Span{Page: 7, Count: 1, Out: 9, Perm: 1}},
		{"page 0", impl.Span{Page: 0, Count: 5, Out: 9, Perm: 1}},
		{"last page", impl.Span{Page: 4095, Count: 1, Out: 9, Perm: 1}},
		{"up to the last page", impl.Span{Page: 4000, Count: 96, Out: 9, Perm: 1, Huge: true}},
		{"all pages", impl.Span{Page: 0, Count: 4096, Out: 61440, Perm: 1, Huge: true}},
		{"out 0", impl.Span{Page: 7, Count: 5, Out: 0, Perm: 1}},
		{"last frame", impl.Span{Page: 7, Count: 1, Out: 65535, Perm: 1}},
		{"up to the last frame", impl.Span{Page: 7, Count: 5, Out: 65531, Perm: 1}},
	}
	for perm := 1; perm <= 7; perm++ {
		rows = append(rows, spanRow{"perm", impl.Span{Page: 7, Count: 5, Out: 9, Perm: perm}})
	}
	return rows
}

// wrongSpans break one condition each.
func wrongSpans() []spanRow {
	rows := []spanRow{
		{"zero", impl.Span{}},
		{"a page past the end", impl.Span{Page: 4000, Count: 97, Out: 9, Perm: 1}},
		{"the last page and one more", impl.Span{Page: 4095, Count: 2, Out: 9, Perm: 1}},
		{"all pages and one", impl.Span{Page: 0, Count: 4097, Out: 9, Perm: 1}},
		{"all pages from 1 on", impl.Span{Page: 1, Count: 4096, Out: 9, Perm: 1}},
		{"a frame past the end", impl.Span{Page: 7, Count: 5, Out: 65532, Perm: 1}},
		{"all pages, a frame past the end", impl.Span{Page: 0, Count: 4096, Out: 61441, Perm: 1}},
	}
	for _, count := range []int{math.MinInt, math.MinInt + 1, -4096, -1, 0, 65527, math.MaxInt - 8, math.MaxInt - 7, math.MaxInt - 6, math.MaxInt - 1, math.MaxInt} {
		rows = append(rows, spanRow{"count", impl.Span{Page: 7, Count: count, Out: 9, Perm: 1}})
		rows = append(rows, spanRow{"count from 0", impl.Span{Page: 0, Count: count, Out: 0, Perm: 1}})
	}
	for _, page := range []int{math.MinInt, math.MinInt + 1, -4096, -5, -1, 4092, 4096, math.MaxInt - 5, math.MaxInt - 4, math.MaxInt - 1, math.MaxInt} {
		rows = append(rows, spanRow{"page", impl.Span{Page: page, Count: 5, Out: 9, Perm: 1}})
	}
	for _, out := range []int{math.MinInt, math.MinInt + 1, -65536, -5, -1, 65532, 65535, 65536, math.MaxInt - 5, math.MaxInt - 4, math.MaxInt - 1, math.MaxInt} {
		rows = append(rows, spanRow{"out", impl.Span{Page: 7, Count: 5, Out: out, Perm: 1}})
	}
	for _, perm := range []int{math.MinInt, -1, 0, 8, 9, 15, 16, math.MaxInt} {
		rows = append(rows, spanRow{"perm", impl.Span{Page: 7, Count: 5, Out: 9, Perm: perm}})
	}
	return rows
}

func TestValidSpansOne(t *testing.T) {
	for _, row := range justValidSpans() {
		checkValid(t, row.name, []impl.Span{row.span}, true)
	}
	before := impl.Span{Page: 0, Count: 2, Out: 50, Perm: 2}
	after := impl.Span{Page: 4090, Count: 2, Out: 60, Perm: 2}
	for _, row := range wrongSpans() {
		checkValid(t, row.name, []impl.Span{row.span}, false)
		checkValid(t, row.name+", last", []impl.Span{before, row.span}, false)
		checkValid(t, row.name+", first", []impl.Span{row.span, after}, false)
		checkValid(t, row.name+", in the middle", []impl.Span{before, row.span, after}, false)
	}
}

func TestValidSpansNeighbours(t *testing.T) {
	a := impl.Span{Page: 100, Count: 10, Out: 500, Perm: 3}
	rows := []struct {
		name string
		next impl.Span
		want bool
	}{
		{"behind a gap", impl.Span{Page: 111, Count: 1, Out: 511, Perm: 3}, true},
		{"behind a gap, frames go on", impl.Span{Page: 111, Count: 1, Out: 510, Perm: 3}, true},
		{"can be joined", impl.Span{Page: 110, Count: 1, Out: 510, Perm: 3}, false},
		{"can be joined, longer", impl.Span{Page: 110, Count: 40, Out: 510, Perm: 3}, false},
		{"Perm alone differs", impl.Span{Page: 110, Count: 1, Out: 510, Perm: 1}, true},
		{"Perm alone holds more", impl.Span{Page: 110, Count: 1, Out: 510, Perm: 7}, true},
		{"Huge alone differs", impl.Span{Page: 110, Count: 1, Out: 510, Perm: 3, Huge: true}, true},
		{"Out alone differs, above", impl.Span{Page: 110, Count: 1, Out: 511, Perm: 3}, true},
		{"Out alone differs, below", impl.Span{Page: 110, Count: 1, Out: 509, Perm: 3}, true},
		{"the same frames", impl.Span{Page: 110, Count: 10, Out: 500, Perm: 3}, true},
		{"frames right before", impl.Span{Page: 110, Count: 10, Out: 490, Perm: 3}, true},
		{"all differ", impl.Span{Page: 110, Count: 10, Out: 0, Perm: 4, Huge: true}, true},
		{"the last page twice", impl.Span{Page: 109, Count: 1, Out: 900, Perm: 1}, false},
		{"the last page twice, as before", impl.Span{Page: 109, Count: 5, Out: 509, Perm: 3}, false},
		{"the same again", a, false},
		{"inside", impl.Span{Page: 104, Count: 1, Out: 900, Perm: 1, Huge: true}, false},
		{"around", impl.Span{Page: 99, Count: 20, Out: 900, Perm: 1}, false},
		{"from the same page", impl.Span{Page: 100, Count: 1, Out: 900, Perm: 1}, false},
		{"in front", impl.Span{Page: 50, Count: 10, Out: 900, Perm: 1}, false},
		{"right in front", impl.Span{Page: 90, Count: 10, Out: 490, Perm: 3}, false},
	}
	for _, row := range rows {
		checkValid(t, row.name, []impl.Span{a, row.next}, row.want)
		checkValid(t, row.name+", behind others", []impl.Span{{Page: 3, Count: 4, Out: 3, Perm: 3}, {Page: 7, Count: 4, Out: 3, Perm: 3}, a, row.next}, row.want)
		a, next := a, row.next
		a.Huge, next.Huge = true, !next.Huge
		checkValid(t, row.name+", huge", []impl.Span{a, next}, row.want)
	}
	// only neighbours count
	checkValid(t, "first and third go on", []impl.Span{a, {Page: 110, Count: 5, Out: 0, Perm: 3}, {Page: 115, Count: 5, Out: 510, Perm: 3}}, true)
	checkValid(t, "third in the first", []impl.Span{{Page: 0, Count: 50, Perm: 1}, {Page: 60, Count: 1, Perm: 1}, {Page: 40, Count: 1, Perm: 1}}, false)
	each := make([]impl.Span, 4096)
	for i := range each {
		each[i] = impl.Span{Page: i, Count: 1, Out: 5, Perm: 7}
	}
	checkValid(t, "a span for each page", each, true)
	each[4095].Out = 6
	checkValid(t, "the last two can be joined", each, false)
}

// spanList is a list on which the edges of At are told.
var spanList = []impl.Span{
	{Page: 10, Count: 40, Out: 26, Perm: 3, Huge: true}, // groups 16 and 32 whole, 0 and 48 in part
	{Page: 64, Count: 32, Out: 1, Perm: 1, Huge: true},  // frames that are no multiples of 16
	{Page: 96, Count: 16, Out: 160, Perm: 1},            // not huge
	{Page: 112, Count: 8, Out: 176, Perm: 5, Huge: true},
	{Page: 120, Count: 8, Out: 184, Perm: 7, Huge: true}, // shares group 112
	{Page: 130, Count: 14, Out: 18, Perm: 2, Huge: true}, // 128 without its beginning
	{Page: 144, Count: 15, Out: 48, Perm: 2, Huge: true}, // 144 without its end
	{Page: 160, Count: 16, Out: 96, Perm: 4, Huge: true},
	{Page: 176, Count: 16, Out: 112, Perm: 4},
	{Page: 192, Count: 17, Out: 120, Perm: 6, Huge: true}, // 192 whole, at a multiple of 8 only
	{Page: 220, Count: 20, Out: 4, Perm: 6, Huge: true},   // begins at no multiple, 224 does not either
	{Page: 4080, Count: 16, Out: 65520, Perm: 7, Huge: true},
}

func TestAtEdges(t *testing.T) {
	rows := []struct {
		page int
		want impl.Hit
	}{
		{math.MinInt, impl.Hit{}}, {-4096, impl.Hit{}}, {-1, impl.Hit{}}, {0, impl.Hit{}}, {9, impl.Hit{}},
		{10, impl.Hit{Kind: impl.KOk, Out: 26, Perm: 3, Size: 1}},
		{15, impl.Hit{Kind: impl.KOk, Out: 31, Perm: 3, Size: 1}},
		{16, impl.Hit{Kind: impl.KOk, Out: 32, Perm: 3, Size: 16}},
		{31, impl.Hit{Kind: impl.KOk, Out: 47, Perm: 3, Size: 16}},
		{47, impl.Hit{Kind: impl.KOk, Out: 63, Perm: 3, Size: 16}},
		{48, impl.Hit{Kind: impl.KOk, Out: 64, Perm: 3, Size: 1}},
		{49, impl.Hit{Kind: impl.KOk, Out: 65, Perm: 3, Size: 1}},
		{50, impl.Hit{}}, {63, impl.Hit{}},
		{64, impl.Hit{Kind: impl.KOk, Out: 1, Perm: 1, Size: 1}},
		{80, impl.Hit{Kind: impl.KOk, Out: 17, Perm: 1, Size: 1}},
		{95, impl.Hit{Kind: impl.KOk, Out: 32, Perm: 1, Size: 1}},
		{96, impl.Hit{Kind: impl.KOk, Out: 160, Perm: 1, Size: 1}},
		{111, impl.Hit{Kind: impl.KOk, Out: 175, Perm: 1, Size: 1}},
		{112, impl.Hit{Kind: impl.KOk, Out: 176, Perm: 5, Size: 1}},
		{119, impl.Hit{Kind: impl.KOk, Out: 183, Perm: 5, Size: 1}},
		{120, impl.Hit{Kind: impl.KOk, Out: 184, Perm: 7, Size: 1}},
		{127, impl.Hit{Kind: impl.KOk, Out: 191, Perm: 7, Size: 1}},
		{128, impl.Hit{}}, {129, impl.Hit{}},
		{130, impl.Hit{Kind: impl.KOk, Out: 18, Perm: 2, Size: 1}},
		{143, impl.Hit{Kind: impl.KOk, Out: 31, Perm: 2, Size: 1}},
		{144, impl.Hit{Kind: impl.KOk, Out: 48, Perm: 2, Size: 1}},
		{158, impl.Hit{Kind: impl.KOk, Out: 62, Perm: 2, Size: 1}},
		{159, impl.Hit{}},
		{160, impl.Hit{Kind: impl.KOk, Out: 96, Perm: 4, Size: 16}},
		{175, impl.Hit{Kind: impl.KOk, Out: 111, Perm: 4, Size: 16}},
		{176, impl.Hit{Kind: impl.KOk, Out: 112, Perm: 4, Size: 1}},
		{192, impl.Hit{Kind: impl.KOk, Out: 120, Perm: 6, Size: 1}},
		{207, impl.Hit{Kind: impl.KOk, Out: 135, Perm: 6, Size: 1}},
		{208, impl.Hit{Kind: impl.KOk, Out: 136, Perm: 6, Size: 1}},
		{209, impl.Hit{}},
		{224, impl.Hit{Kind: impl.KOk, Out: 8, Perm: 6, Size: 1}},
		{239, impl.Hit{Kind: impl.KOk, Out: 23, Perm: 6, Size: 1}},
		{240, impl.Hit{}}, {4079, impl.Hit{}},
		{4080, impl.Hit{Kind: impl.KOk, Out: 65520, Perm: 7, Size: 16}},
		{4095, impl.Hit{Kind: impl.KOk, Out: 65535, Perm: 7, Size: 16}},
		{4096, impl.Hit{}}, {4097, impl.Hit{}}, {math.MaxInt, impl.Hit{}},
	}
	arg := roomyList(spanList, markSpan)
	for _, row := range rows {
		if got := impl.At(arg, row.page); got != row.want {
			t.Errorf("page %d: %v, want %v", row.page, got, row.want)
		}
	}
	if !slices.Equal(arg, spanList) || !marksStand(arg, markSpan) {
		t.Error("the list was changed")
	}
	checkValid(t, "the list", spanList, true)
}

func TestAtEnds(t *testing.T) {
	whole := []impl.Span{{Page: 0, Count: 4096, Out: 16, Perm: 1, Huge: true}}
	for _, page := range []int{0, 1, 15, 16, 2047, 4080, 4095} {
		if got, want := impl.At(whole, page), (impl.Hit{Kind: impl.KOk, Out: 16 + page, Perm: 1, Size: 16}); got != want {
			t.Errorf("page %d: %v, want %v", page, got, want)
		}
	}
	for _, page := range []int{-1, -16, 4096, 4097, math.MinInt, math.MaxInt} {
		if got := impl.At(whole, page); got != (impl.Hit{}) {
			t.Errorf("page %d: %v", page, got)
		}
	}
	for _, none := range [][]impl.Span{nil, {}} {
		for _, page := range []int{-1, 0, 4095, 4096} {
			if got := impl.At(none, page); got != (impl.Hit{}) {
				t.Errorf("no spans, page %d: %v", page, got)
			}
		}
	}
	// one span far behind the page spoils the list
	spoilt := append(slices.Clone(spanList), impl.Span{Page: 4095, Count: 1, Out: 0, Perm: 1})
	if got := impl.At(spoilt, 16); got != (impl.Hit{}) {
		t.Errorf("a list that is not valid says %v", got)
	}
}

// pageTable lays the spans of a list out page by page, and tells whether they
// are valid: in order, and not to be laid out by fewer.
func pageTable(s []impl.Span) ([]modelPage, bool) {
	pages := make([]modelPage, 4096)
	from := 0
	for _, span := range s {
		if span.Page < from || span.Count < 1 || span.Count > 4096-span.Page || span.Out < 0 || span.Out > 65536-span.Count || span.Perm < 1 || span.Perm > 7 {
			return nil, false
		}
		from = span.Page + span.Count
		for i := range span.Count {
			pages[span.Page+i] = modelPage{out: span.Out + i, perm: span.Perm, huge: span.Huge, mapped: true}
		}
	}
	return pages, slices.Equal(modelSpans(pages), s)
}

func anySpans(r *rand.Rand) []impl.Span {
	var s []impl.Span
	page, out := r.Intn(30), r.Intn(40)
	for range r.Intn(8) {
		span := impl.Span{Page: page, Count: 1 + r.Intn(40), Out: out, Perm: 1 + r.Intn(2), Huge: r.Intn(3) > 0}
		page, out = page+span.Count, out+span.Count
		switch r.Intn(9) {
		case 0, 1:
			page += r.Intn(20)
		case 2, 3:
			out += r.Intn(20)
		case 4:
			page, out = (page+15)/16*16, (out+15)/16*16
		case 5:
			span.Perm = r.Intn(9)
		case 6:
			page -= r.Intn(3)
		}
		s = append(s, span)
	}
	return s
}

func TestSpansAgainstModel(t *testing.T) {
	r := rand.New(rand.NewSource(44))
	valid, spoilt, big := 0, 0, 0
	for range 8000 {
		s := anySpans(r)
		pages, want := pageTable(s)
		checkValid(t, "any list", s, want)
		if !want {
			spoilt++
			continue
		}
		valid++
		for page := range 400 {
			hit, wantHit := impl.At(s, page), modelHit(pages, page)
			if hit != wantHit {
				t.Fatalf("%v: page %d: %v, want %v", s, page, hit, wantHit)
			}
			if hit.Size == 16 {
				big++
			}
		}
	}
	if valid < 1000 || spoilt < 1000 || big < 1000 {
		t.Errorf("%d lists were valid, %d not, %d pages in big groups", valid, spoilt, big)
	}
}
