package tests

import (
	"math"
	"math/rand"
	"slices"
	"strconv"
	"testing"

	"loop.example/s0047/impl"
)

func pageWord(out int, perm int) uint64 {
	return wordOf(1, perm, out)
}

func blockWord(out int, perm int) uint64 {
	return wordOf(0, perm, out)
}

func pageSpan(page int, count int, out int) impl.Span {
	return impl.Span{Page: page, Count: count, Out: out, Perm: 1}
}

func hugeSpan(page int, count int, out int) impl.Span {
	return impl.Span{Page: page, Count: count, Out: out, Perm: 1, Huge: true}
}

// writes are those of the 16 words of a frame, 0 where the map has none.
func writes(frame int, words map[int]uint64) []impl.Op {
	var ops []impl.Op
	for i := range 16 {
		ops = append(ops, write(frame*16+i, words[i]))
	}
	return ops
}

func opsOf(parts ...[]impl.Op) []impl.Op {
	return slices.Concat(parts...)
}

func one(ops ...impl.Op) []impl.Op {
	return ops
}

// checkPlan also holds the call against its arguments: not changed, not shared.
func checkPlan(t *testing.T, name string, m impl.Mem, s []impl.Span, wantCode int, want ...impl.Op) {
	t.Helper()
	mem, spans := impl.Mem{Words: roomyList(m.Words, 99)}, roomyList(s, markSpan)
	stands := func() bool {
		return slices.Equal(mem.Words, m.Words) && marksStand(mem.Words, 99) && slices.Equal(spans, s) && marksStand(spans, markSpan)
	}
	got, code := impl.Plan(mem, spans)
	if code != wantCode || !slices.Equal(got, want) {
		t.Fatalf("%s: code %d and\n%v, want %d and\n%v", name, code, got, wantCode, want)
	}
	if !stands() {
		t.Fatalf("%s: an argument was changed", name)
	}
	spoilList(got, markOp)
	if !stands() {
		t.Fatalf("%s: an argument changed with the answer", name)
	}
	got, _ = impl.Plan(mem, spans)
	spoilList(mem.Words, 77)
	spoilList(spans, markSpan)
	if !slices.Equal(got, want) {
		t.Fatalf("%s: the answer changed with the arguments, or by asking twice", name)
	}
}

func TestPlanConstants(t *testing.T) {
	if impl.MaxRunScript != 60000 {
		t.Errorf("MaxRunScript is %d", impl.MaxRunScript)
	}
}

// singles are spans of every second page, which can't be joined.
func singles(page int, count int) []impl.Span {
	var s []impl.Span
	for i := range count {
		s = append(s, pageSpan(page+2*i, 1, i))
	}
	return s
}

func TestTablesNeeded(t *testing.T) {
	rows := []struct {
		name string
		s    []impl.Span
		want int
	}{
		{"nil", nil, 1},
		{"empty", []impl.Span{}, 1},
		{"one page", []impl.Span{pageSpan(700, 1, 3)}, 3},
		{"the first page", []impl.Span{pageSpan(0, 1, 3)}, 3},
		{"the last page", []impl.Span{pageSpan(4095, 1, 3)}, 3},
		{"a huge page", []impl.Span{hugeSpan(16, 1, 16)}, 3},
		{"a block", []impl.Span{hugeSpan(16, 16, 16)}, 2},
		{"the first block", []impl.Span{hugeSpan(0, 16, 0)}, 2},
		{"the last block", []impl.Span{hugeSpan(4080, 16, 65520)}, 2},
		{"a group that is not huge", []impl.Span{pageSpan(16, 16, 16)}, 3},
		{"a huge group to odd frames", []impl.Span{hugeSpan(16, 16, 17)}, 3},
		{"a huge group but for a page", []impl.Span{hugeSpan(16, 15, 16)}, 3},
		{"16 huge pages in two groups", []impl.Span{hugeSpan(17, 16, 17)}, 4},
		{"a block and a page before it", []impl.Span{hugeSpan(15, 17, 15)}, 3},
		{"a block and a page behind it", []impl.Span{hugeSpan(16, 17, 16)}, 3},
		{"a block and pages on both sides", []impl.Span{hugeSpan(15, 18, 15)}, 4},
		{"a block beside single pages", []impl.Span{pageSpan(15, 1, 9), hugeSpan(16, 16, 16), pageSpan(32, 1, 9)}, 4},
		{"two pages of one group", []impl.Span{pageSpan(32, 1, 5), pageSpan(47, 1, 5)}, 3},
		{"two pages at a group's border", []impl.Span{pageSpan(31, 2, 5)}, 4},
		{"two pages at the border of 256", []impl.Span{pageSpan(255, 2, 5)}, 5},
		{"two blocks at the border of 256", []impl.Span{hugeSpan(240, 32, 240)}, 3},
		{"a block and a page at the border of 256", []impl.Span{hugeSpan(240, 17, 240)}, 4},
		{"a page and a block at the border of 256", []impl.Span{hugeSpan(255, 17, 255)}, 4},
		{"256 pages as blocks", []impl.Span{hugeSpan(256, 256, 0)}, 2},
		{"256 pages as pages", []impl.Span{pageSpan(256, 256, 0)}, 18},
		{"256 pages one further", []impl.Span{pageSpan(257, 256, 0)}, 20},
		{"all pages as blocks", []impl.Span{hugeSpan(0, 4096, 61440)}, 17},
		{"all pages", []impl.Span{pageSpan(0, 4096, 61440)}, 273},
		{"all pages, huge, to odd frames", []impl.Span{hugeSpan(0, 4096, 61439)}, 273},
		{"every second page", singles(0, 2048), 273},
	}
	for _, row := range rows {
		arg := roomyList(row.s, markSpan)
		if got := impl.TablesNeeded(arg); got != row.want {
			t.Errorf("%s: %d, want %d", row.name, got, row.want)
		}
		if !slices.Equal(arg, row.s) || !marksStand(arg, markSpan) {
			t.Errorf("%s: the argument was changed", row.name)
		}
	}
}

// wrongSpanLists are not valid, each by itself and behind a span that is.
func wrongSpanLists() [][]impl.Span {
	var lists [][]impl.Span
	for _, row := range wrongSpans() {
		lists = append(lists, []impl.Span{row.span}, []impl.Span{pageSpan(3, 2, 5), row.span})
	}
	return append(lists,
		[]impl.Span{pageSpan(3, 2, 5), pageSpan(4, 2, 9)},
		[]impl.Span{pageSpan(3, 2, 5), pageSpan(5, 2, 7)},
		[]impl.Span{pageSpan(30, 2, 5), pageSpan(3, 2, 7)})
}

func TestNoSpans(t *testing.T) {
	for _, s := range wrongSpanLists() {
		if got := impl.TablesNeeded(s); got != 0 {
			t.Errorf("%v is not valid, but needs %d", s, got)
		}
		checkPlan(t, "spans that are not valid", memOf(9), s, 2)
		checkPlan(t, "spans that are not valid", smallTree(), s, 2)
		checkBuild(t, s, 9, 1)
	}
}

func TestPlanCodes(t *testing.T) {
	good, many := []impl.Span{pageSpan(5, 3, 1)}, []impl.Span{pageSpan(0, 4096, 1)}
	wrong := []impl.Span{pageSpan(5, 0, 1)}
	for _, n := range []int{0, 1, 15, 17, 47, 512*16 - 1, 512*16 + 1, 513 * 16} {
		for _, s := range [][]impl.Span{nil, good, many, wrong} {
			checkPlan(t, "a memory that is not valid", impl.Mem{Words: make([]uint64, n)}, s, 1)
		}
	}
	spoils := []func(m impl.Mem){
		func(m impl.Mem) { put(m, 0, 9, tableWord(3)) },
		func(m impl.Mem) { put(m, 3, 9, tableWord(5)) },
		func(m impl.Mem) { put(m, 0, 9, tableWord(0)) },
		func(m impl.Mem) { put(m, 3, 9, tableWord(0)) },
		func(m impl.Mem) { put(m, 0, 9, tableWord(6)) },
		func(m impl.Mem) { put(m, 3, 9, tableWord(6)) },
		func(m impl.Mem) { put(m, 0, 9, 1) },
		func(m impl.Mem) { put(m, 0, 9, blockWord(16, 1)) },
		func(m impl.Mem) { put(m, 3, 9, blockWord(17, 1)) },
		func(m impl.Mem) { put(m, 3, 9, pageWord(16, 1)) },
		func(m impl.Mem) { put(m, 5, 9, tableWord(4)) },
		func(m impl.Mem) { put(m, 2, 9, pageWord(16, 1)|1<<40) },
	}
	for i, spoil := range spoils {
		m := smallTree()
		spoil(m)
		for _, s := range [][]impl.Span{nil, good, many, wrong} {
			checkPlan(t, "no tree, "+strconv.Itoa(i), m, s, 1)
		}
	}
	checkPlan(t, "many pages that are not valid", memOf(2), append(slices.Clone(many), wrong...), 2)
	for _, m := range []impl.Mem{memOf(1), smallTree(), memOf(272)} {
		checkPlan(t, "many", m, many, 3)
	}
}

func TestPlanFramesJustEnough(t *testing.T) {
	lists := [][]impl.Span{
		{pageSpan(700, 1, 3)}, {hugeSpan(16, 16, 16)}, {pageSpan(255, 2, 5)}, {hugeSpan(15, 18, 15)},
		{hugeSpan(0, 4096, 0)}, {pageSpan(0, 256, 7)}, {pageSpan(0, 4096, 7)}, singles(100, 500),
	}
	for _, s := range lists {
		need := impl.TablesNeeded(s)
		for _, frames := range []int{need, need + 1, 512} {
			if ops, code := impl.Plan(memOf(frames), s); code != 0 || len(ops) == 0 {
				t.Errorf("%d needed, %d there: code %d", need, frames, code)
			}
			checkBuild(t, s, frames, 0)
		}
		for _, frames := range []int{1, need - 1} {
			checkPlan(t, "too few", memOf(frames), s, 3)
			checkBuild(t, s, frames, 3)
		}
	}
}

// The old tables are all kept, all retired, or some of each; enough frames are
// enough all the same.
func TestPlanFramesJustEnoughWithOldTables(t *testing.T) {
	m := memOf(5)
	put(m, 0, 0, tableWord(4))
	put(m, 4, 0, tableWord(2))
	put(m, 2, 1, pageWord(9, 1))
	far := []impl.Span{pageSpan(255, 1, 7), pageSpan(3000, 1, 8)}
	want := opsOf(
		one(write(64, 0), dsb, tlbi(0, 16), dsb, free(2)),
		writes(1, map[int]uint64{15: pageWord(7, 1)}),
		writes(2, map[int]uint64{11: tableWord(3)}),
		writes(3, map[int]uint64{8: pageWord(8, 1)}),
		one(dsb, write(79, tableWord(1)), write(11, tableWord(2)), dsb))
	checkPlan(t, "level 2 kept, level 3 retired", m, far, 0, want...)
	checkPlan(t, "one too few", m, append(far, pageSpan(3016, 1, 9)), 3)
}

func TestPlanNothing(t *testing.T) {
	checkPlan(t, "zeros", memOf(1), nil, 0)
	checkPlan(t, "many zeros", memOf(512), nil, 0)
	m := memOf(3)
	put(m, 0, 3, 2)
	put(m, 0, 15, ^uint64(0)&^1)
	put(m, 1, 0, 1)
	checkPlan(t, "invalid words", m, nil, 0)
	tree := withoutEmptyTables(smallTree())
	checkPlan(t, "the tree's own", tree, []impl.Span{
		{Page: 516, Count: 1, Out: 77, Perm: 5}, {Page: 624, Count: 16, Out: 48, Perm: 3, Huge: true},
		{Page: 767, Count: 1, Out: 65535, Perm: 1}, {Page: 3840, Count: 16, Out: 0, Perm: 4, Huge: true}}, 0)
}

// blockAndTable has a block at 16 and a table at 32, below frame 2 of 4.
func blockAndTable() impl.Mem {
	m := memOf(4)
	put(m, 0, 0, tableWord(2))
	put(m, 2, 1, blockWord(32, 1))
	put(m, 2, 2, tableWord(1))
	for i := range 16 {
		put(m, 1, i, pageWord(48+i, 1))
	}
	return m
}

func TestPlanBlocksAndTables(t *testing.T) {
	m := blockAndTable()
	pages := map[int]uint64{}
	for i := range 16 {
		pages[i] = pageWord(32+i, 1)
	}
	table := opsOf(one(write(33, 0), dsb, tlbi(16, 16), dsb), writes(3, pages), one(dsb, write(33, tableWord(3)), dsb))
	checkPlan(t, "a block becomes a table", m, []impl.Span{pageSpan(16, 32, 32)}, 0, table...)
	block := one(write(34, 0), dsb, tlbi(32, 16), dsb, free(1), write(34, blockWord(48, 1)), dsb)
	checkPlan(t, "a table becomes a block", m, []impl.Span{hugeSpan(16, 32, 32)}, 0, block...)
	both := opsOf(one(write(33, 0), write(34, 0), dsb, tlbi(16, 32), dsb, free(1)), writes(1, pages), one(dsb, write(33, tableWord(1)), write(34, blockWord(48, 1)), dsb))
	checkPlan(t, "both, and the frame is taken again", m, []impl.Span{pageSpan(16, 16, 32), hugeSpan(32, 16, 48)}, 0, both...)
	other := one(write(33, 0), dsb, tlbi(16, 16), dsb, write(33, blockWord(64, 1)), dsb)
	checkPlan(t, "another block", m, []impl.Span{hugeSpan(16, 16, 64), pageSpan(32, 16, 48)}, 0, other...)
	less := one(write(33, 0), write(17, 0), dsb, tlbi(16, 16), tlbi(33, 1), dsb, write(33, blockWord(32, 3)), dsb)
	checkPlan(t, "other permissions, and a page goes", m, []impl.Span{{Page: 16, Count: 16, Out: 32, Perm: 3, Huge: true}, pageSpan(32, 1, 48), pageSpan(34, 14, 50)}, 0, less...)
}

func TestPlanMidTables(t *testing.T) {
	m := blockAndTable()
	stays := []impl.Span{hugeSpan(16, 16, 32), pageSpan(32, 16, 48)}
	checkPlan(t, "one goes", m, nil, 0, write(0, 0), dsb, tlbi(0, 256), dsb, free(1), free(2))
	comes := opsOf(writes(3, map[int]uint64{15: blockWord(240, 1)}), one(dsb, write(9, tableWord(3)), dsb))
	checkPlan(t, "one comes", m, append(stays, hugeSpan(2544, 16, 240)), 0, comes...)
	moves := opsOf(
		one(write(0, 0), dsb, tlbi(0, 256), dsb, free(1), free(2)),
		writes(1, map[int]uint64{0: tableWord(2)}),
		writes(2, map[int]uint64{0: pageWord(9, 1)}),
		one(dsb, write(15, tableWord(1)), dsb))
	checkPlan(t, "one goes and one comes", m, []impl.Span{pageSpan(3840, 1, 9)}, 0, moves...)
	checkPlan(t, "one empties in part", m, stays[:1], 0, write(34, 0), dsb, tlbi(32, 16), dsb, free(1))
	checkPlan(t, "one empties in the other part", m, stays[1:], 0, write(33, 0), dsb, tlbi(16, 16), dsb)
	moved := opsOf(
		one(write(33, 0), write(34, 0), dsb, tlbi(16, 32), dsb, free(1)),
		writes(1, map[int]uint64{15: pageWord(9, 1)}),
		one(dsb, write(47, tableWord(1)), dsb))
	checkPlan(t, "one is kept for another group", m, []impl.Span{pageSpan(255, 1, 9)}, 0, moved...)
	empty := memOf(3)
	put(empty, 0, 4, tableWord(2))
	put(empty, 2, 4, tableWord(1))
	checkPlan(t, "empty tables go", empty, nil, 0, write(4, 0), dsb, tlbi(1024, 256), dsb, free(1), free(2))
	checkPlan(t, "an empty table is kept", empty, []impl.Span{pageSpan(1088, 1, 9)}, 0, write(16, pageWord(9, 1)), dsb)
	checkPlan(t, "an empty table becomes a block", empty, []impl.Span{hugeSpan(1088, 16, 16)}, 0, write(36, 0), dsb, tlbi(1088, 16), dsb, free(1), write(36, blockWord(16, 1)), dsb)
}

// wideTree has entries of every level that can be broken side by side: single
// pages up to 255, 256 pages below a level-1 entry, and pages from 512 on.
func wideTree() impl.Mem {
	m := memOf(8)
	put(m, 0, 0, tableWord(7))
	put(m, 7, 14, blockWord(0, 1))
	put(m, 7, 15, tableWord(6))
	put(m, 6, 0, pageWord(1, 1))
	put(m, 6, 14, pageWord(1, 1))
	put(m, 6, 15, pageWord(2, 1))
	put(m, 0, 1, tableWord(5))
	put(m, 5, 3, blockWord(16, 1))
	put(m, 0, 2, tableWord(4))
	put(m, 4, 0, tableWord(3))
	put(m, 4, 1, blockWord(32, 1))
	put(m, 3, 0, pageWord(3, 1))
	put(m, 3, 1, pageWord(4, 1))
	put(m, 3, 15, pageWord(5, 1))
	return m
}

// Entries of three levels are broken and linked in the order of their pages, and
// runs of pages go over the borders of tables.
func TestPlanOrder(t *testing.T) {
	m := wideTree()
	s := []impl.Span{pageSpan(240, 1, 1), pageSpan(527, 1, 5)}
	checkPlan(t, "one run over three tables", m, s, 0, opsOf(
		one(write(126, 0), write(110, 0), write(111, 0), write(1, 0), write(48, 0), write(49, 0), write(65, 0)),
		one(dsb, tlbi(224, 16), tlbi(254, 260), tlbi(528, 16), dsb, free(5)))...)
	s = []impl.Span{hugeSpan(224, 16, 64), pageSpan(240, 1, 1), pageSpan(255, 1, 9), pageSpan(512, 1, 3), pageSpan(513, 1, 6), pageSpan(527, 1, 5), hugeSpan(528, 16, 96), hugeSpan(768, 16, 0)}
	checkPlan(t, "broken and linked", m, s, 0, opsOf(
		one(write(126, 0), write(110, 0), write(111, 0), write(1, 0), write(49, 0), write(65, 0)),
		one(dsb, tlbi(224, 16), tlbi(254, 258), tlbi(513, 1), tlbi(528, 16), dsb, free(5)),
		writes(1, map[int]uint64{0: blockWord(0, 1)}),
		one(dsb, write(126, blockWord(64, 1)), write(111, pageWord(9, 1)), write(49, pageWord(6, 1)), write(65, blockWord(96, 1)), write(3, tableWord(1)), dsb))...)
	all := opsOf(one(write(0, 0), write(1, 0), write(2, 0), dsb, tlbi(0, 768), dsb, free(3), free(4), free(5), free(6), free(7)))
	checkPlan(t, "all away", m, nil, 0, all...)
}

// Of the entries that begin at one page, the higher leads to the lower: if the
// lower is in a kept table the higher is right. So only one of them is broken.
func TestPlanSameFirstPage(t *testing.T) {
	m := memOf(3)
	put(m, 0, 1, tableWord(1))
	put(m, 1, 0, tableWord(2))
	put(m, 2, 0, pageWord(5, 1))
	checkPlan(t, "level 3", m, []impl.Span{pageSpan(256, 1, 6)}, 0, write(32, 0), dsb, tlbi(256, 1), dsb, write(32, pageWord(6, 1)), dsb)
	checkPlan(t, "level 2", m, []impl.Span{hugeSpan(256, 16, 0)}, 0, write(16, 0), dsb, tlbi(256, 16), dsb, free(2), write(16, blockWord(0, 1)), dsb)
	checkPlan(t, "level 1", m, nil, 0, write(1, 0), dsb, tlbi(256, 256), dsb, free(1), free(2))
}

func TestPlanFramesTakenAgain(t *testing.T) {
	m := wideTree()
	// all tables below 0 are retired; the new ones take 1 and 2, which were free,
	// and then 3 and 4, which were not
	s := []impl.Span{pageSpan(1000, 1, 9), pageSpan(3000, 1, 8)}
	checkPlan(t, "free ones first", m, s, 0, opsOf(
		one(write(0, 0), write(1, 0), write(2, 0), dsb, tlbi(0, 768), dsb, free(3), free(4), free(5), free(6), free(7)),
		writes(1, map[int]uint64{14: tableWord(2)}),
		writes(2, map[int]uint64{8: pageWord(9, 1)}),
		writes(3, map[int]uint64{11: tableWord(4)}),
		writes(4, map[int]uint64{8: pageWord(8, 1)}),
		one(dsb, write(3, tableWord(1)), write(11, tableWord(3)), dsb))...)
	// a level-2 table's frame becomes a level-3 table, and the other way round
	n := memOf(3)
	put(n, 0, 0, tableWord(2))
	put(n, 2, 0, tableWord(1))
	put(n, 1, 0, pageWord(5, 7))
	checkPlan(t, "at other levels", n, []impl.Span{pageSpan(4095, 1, 9)}, 0, opsOf(
		one(write(0, 0), dsb, tlbi(0, 256), dsb, free(1), free(2)),
		writes(1, map[int]uint64{15: tableWord(2)}),
		writes(2, map[int]uint64{15: pageWord(9, 1)}),
		one(dsb, write(15, tableWord(1)), dsb))...)
}

func TestPlanInvalidAndBadWords(t *testing.T) {
	odd := ^uint64(0) &^ 1
	m := memOf(6)
	put(m, 0, 0, tableWord(5))
	put(m, 0, 1, odd)
	put(m, 0, 2, odd)
	put(m, 5, 0, tableWord(4))
	put(m, 5, 1, odd)
	put(m, 5, 2, blockWord(16, 1)&^1)
	put(m, 4, 0, pageWord(5, 1))
	put(m, 4, 1, pageWord(6, 1)&^1)
	put(m, 4, 2, pageWord(7, 1)&^1)
	for i := range 16 {
		put(m, 1, i, ^uint64(0))
		put(m, 2, i, tableWord(i))
		put(m, 3, i, pageWord(i, 7))
	}
	s := []impl.Span{pageSpan(0, 2, 5), hugeSpan(16, 16, 16), hugeSpan(256, 16, 32)}
	checkPlan(t, "invalid words are linked, not broken", m, s, 0, opsOf(
		writes(1, map[int]uint64{0: blockWord(32, 1)}),
		one(dsb, write(65, pageWord(6, 1)), write(81, blockWord(16, 1)), write(1, tableWord(1)), dsb))...)
	checkPlanned(t, m, hitsOf(s), modelProgram(m.Words, hitsOf(s)))
	checkPlan(t, "and stay if there is nothing to link", m, []impl.Span{pageSpan(0, 1, 5)}, 0)
	bad := memOf(6)
	copy(bad.Words, m.Words)
	put(bad, 4, 15, 1)
	checkPlan(t, "a bad word", bad, s, 1)
	put(bad, 4, 15, 0)
	put(bad, 5, 15, pageWord(16, 1))
	checkPlan(t, "a bad word at level 2", bad, s, 1)
	put(bad, 5, 15, 0)
	put(bad, 0, 15, blockWord(16, 1))
	checkPlan(t, "a bad word at level 1", bad, s, 1)
}

// hitsOf says what valid spans say, by the model.
func hitsOf(s []impl.Span) []impl.Hit {
	pages, _ := pageTable(s)
	return modelHits(pages)
}

// checkBuild asks for the code, and for promise 8 if it is 0.
func checkBuild(t *testing.T, s []impl.Span, frames int, wantCode int) {
	t.Helper()
	arg := roomyList(s, markSpan)
	m, code := impl.Build(arg, frames)
	if code != wantCode {
		t.Fatalf("%d spans in %d frames: code %d, want %d", len(s), frames, code, wantCode)
	}
	if !slices.Equal(arg, s) || !marksStand(arg, markSpan) {
		t.Fatalf("%d spans in %d frames: the argument was changed", len(s), frames)
	}
	if code != 0 {
		if len(m.Words) != 0 {
			t.Fatalf("code %d beside %d words", code, len(m.Words))
		}
		return
	}
	hits := hitsOf(s)
	want := memOf(frames)
	for _, op := range modelProgram(want.Words, hits) {
		if op.Kind == impl.OWrite {
			want.Words[op.A] = op.Word
		}
	}
	if !slices.Equal(m.Words, want.Words) {
		t.Fatalf("%d spans in %d frames: other words than the plan's", len(s), frames)
	}
	if _, tree := impl.Places(m); !tree || !slices.Equal(allWalks(m), hits) {
		t.Fatalf("%d spans in %d frames: tree %t, or a page is mapped otherwise", len(s), frames, tree)
	}
	spoilList(m.Words, 77)
	if again, _ := impl.Build(arg, frames); !slices.Equal(again.Words, want.Words) {
		t.Fatalf("%d spans in %d frames: another memory when asked again", len(s), frames)
	}
}

func TestBuildFrames(t *testing.T) {
	some, none, wrong := []impl.Span{pageSpan(5, 3, 1)}, []impl.Span{}, []impl.Span{pageSpan(5, 0, 1)}
	for _, frames := range []int{math.MinInt, -512, -1, 0, 513, 514, 1024, math.MaxInt} {
		checkBuild(t, some, frames, 2)
		checkBuild(t, none, frames, 2)
		checkBuild(t, nil, frames, 2)
		checkBuild(t, []impl.Span{pageSpan(0, 4096, 0)}, frames, 2)
		checkBuild(t, wrong, frames, 1)
	}
	for _, frames := range []int{1, 2, 3, 511, 512} {
		checkBuild(t, none, frames, 0)
		checkBuild(t, wrong, frames, 1)
	}
	for frames, code := range []int{2, 3, 3, 0, 0} {
		checkBuild(t, some, frames, code)
	}
	for frames, code := range map[int]int{1: 3, 272: 3, 273: 0, 274: 0, 512: 0} {
		checkBuild(t, []impl.Span{pageSpan(0, 4096, 0)}, frames, code)
	}
	checkBuild(t, append(singles(0, 2048), pageSpan(4000, 1, 0)), 1, 1)
}

// Promise 8 for any spans.
func TestBuildAgainstModel(t *testing.T) {
	r := rand.New(rand.NewSource(53))
	codes := map[int]int{}
	for i := range 300 {
		s := modelSpans(bendPages(r, pagesOfTree(anyTree(r, 1+r.Intn(1+i%60)))))
		need := len(modelNeeded(hitsOf(s)))
		if got := impl.TablesNeeded(s); got != need {
			t.Fatalf("%v needs %d, want %d", s, got, need)
		}
		frames := max(0, need+r.Intn(4)-2)
		code := 0
		if frames < need {
			code = 3
		}
		if frames == 0 {
			code = 2
		}
		checkBuild(t, s, frames, code)
		codes[code]++
	}
	if codes[0] < 50 || codes[3] < 50 {
		t.Errorf("too few of some: %v", codes)
	}
}
