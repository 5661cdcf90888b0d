package tests

import (
	"slices"
	"testing"

	"loop.example/s0047/impl"
)

// The bits of a choice.
const (
	bitWc      = 1
	bitLate1   = 2
	bitLate2   = 4
	bitLate3   = 8
	bitAdd2    = 16
	bitAdd3    = 32
	bitAddTlb  = 64
	bitTlb     = 128
	bitsAdd    = bitAdd2 | bitAdd3 | bitAddTlb
	bitsLate   = bitLate1 | bitLate2 | bitLate3
	unusedHigh = 65280
)

func machineOf(tlb []impl.Tlb, wc []impl.Wc) impl.Machine {
	return impl.Machine{Mem: smallTree(), Tlb: tlb, Wc: wc}
}

var (
	tlbPage = impl.Tlb{Page: 516, Size: 1, Out: 77, Perm: 5}
	wcMid   = impl.Wc{Level: 2, Page: 512, Table: 3}
	wcLast  = impl.Wc{Level: 3, Page: 512, Table: 5}
)

func doomedTlb(e impl.Tlb) impl.Tlb {
	e.Doomed = true
	return e
}

func doomedWc(e impl.Wc) impl.Wc {
	e.Doomed = true
	return e
}

// Each bit adds its own entry and no other.
func TestAddEachAlone(t *testing.T) {
	m := machineOf(nil, nil)
	checkFill(t, "bit 4", m, 516, bitAdd2, machineOf(nil, []impl.Wc{wcMid}))
	checkFill(t, "bit 5", m, 516, bitAdd3, machineOf(nil, []impl.Wc{wcLast}))
	checkFill(t, "bit 6", m, 516, bitAddTlb, machineOf([]impl.Tlb{tlbPage}, nil))
	checkFill(t, "all three", m, 516, bitsAdd, machineOf([]impl.Tlb{tlbPage}, []impl.Wc{wcMid, wcLast}))
	checkFill(t, "none", m, 516, 65535&^bitsAdd, m)
	block := impl.Tlb{Page: 624, Size: 16, Out: 48, Perm: 3}
	checkFill(t, "block", m, 631, bitsAdd, machineOf([]impl.Tlb{block}, []impl.Wc{wcMid}))
	checkAccess(t, "block", m, 631, 4, bitsAdd, machineOf([]impl.Tlb{block}, []impl.Wc{wcMid}), impl.Seen{Page: 631, Need: 4, Kind: impl.KPerm})
	last := impl.Tlb{Page: 767, Size: 1, Out: 65535, Perm: 1}
	checkFill(t, "page 767", m, 767, bitsAdd, machineOf([]impl.Tlb{last}, []impl.Wc{wcMid, {Level: 3, Page: 752, Table: 2}}))
}

// A walk that ends without a translation keeps the tables it came to.
func TestAddOnTheWayToNothing(t *testing.T) {
	m := machineOf(nil, nil)
	checkFill(t, "fault at level 1", m, 0, bitsAdd, m)
	checkFill(t, "fault at level 2", m, 544, bitsAdd, machineOf(nil, []impl.Wc{wcMid}))
	checkFill(t, "fault at level 3", m, 515, bitsAdd, machineOf(nil, []impl.Wc{wcMid, wcLast}))
	bad := func(frame int, index int, w uint64, wc ...impl.Wc) (impl.Machine, impl.Machine) {
		from, to := machineOf(nil, nil), machineOf(nil, wc)
		put(from.Mem, frame, index, w)
		put(to.Mem, frame, index, w)
		return from, to
	}
	from, to := bad(0, 2, tableWord(6))
	checkAccess(t, "no such frame at level 1", from, 516, 1, bitsAdd, to, impl.Seen{Page: 516, Need: 1, Kind: impl.KBad})
	from, to = bad(3, 0, tableWord(6), wcMid)
	checkAccess(t, "no such frame at level 2", from, 516, 1, bitsAdd, to, impl.Seen{Page: 516, Need: 1, Kind: impl.KBad})
	from, to = bad(5, 4, tableWord(4), wcMid, wcLast)
	checkAccess(t, "bad at level 3", from, 516, 1, bitsAdd, to, impl.Seen{Page: 516, Need: 1, Kind: impl.KBad})
}

// The same entry is one with all the same fields, Doomed and all.
func TestAddWhatIsThere(t *testing.T) {
	m := machineOf([]impl.Tlb{tlbPage}, []impl.Wc{wcLast, wcMid})
	checkFill(t, "all there", m, 516, bitsAdd, m)
	m = machineOf([]impl.Tlb{doomedTlb(tlbPage)}, []impl.Wc{doomedWc(wcLast), doomedWc(wcMid)})
	want := machineOf([]impl.Tlb{doomedTlb(tlbPage), tlbPage}, []impl.Wc{doomedWc(wcLast), doomedWc(wcMid), wcMid, wcLast})
	checkFill(t, "doomed there", m, 516, bitsAdd, want)
	checkFill(t, "both there", want, 516, bitsAdd, want)
	near := []impl.Tlb{{Page: 517, Size: 1, Out: 77, Perm: 5}, {Page: 516, Size: 1, Out: 78, Perm: 5}, {Page: 516, Size: 1, Out: 77, Perm: 1}}
	for _, e := range near {
		checkFill(t, "near the entry of Tlb", machineOf([]impl.Tlb{e}, nil), 516, bitAddTlb, machineOf([]impl.Tlb{e, tlbPage}, nil))
	}
	wide := impl.Tlb{Page: 624, Size: 16, Out: 48, Perm: 3}
	narrow := impl.Tlb{Page: 624, Size: 1, Out: 48, Perm: 3}
	checkFill(t, "another Size", machineOf([]impl.Tlb{narrow}, nil), 624, bitAddTlb, machineOf([]impl.Tlb{narrow, wide}, nil))
	for _, e := range []impl.Wc{{Level: 3, Page: 512, Table: 3}, {Level: 2, Page: 768, Table: 3}, {Level: 2, Page: 512, Table: 4}} {
		checkFill(t, "near the entry of Wc", machineOf(nil, []impl.Wc{e}), 516, bitAdd2, machineOf(nil, []impl.Wc{e, wcMid}))
	}
}

func TestAddToFullCaches(t *testing.T) {
	tlb := slices.Repeat([]impl.Tlb{{Page: 9, Size: 1, Out: 9, Perm: 1}}, 256)
	wc := slices.Repeat([]impl.Wc{{Level: 3, Page: 32, Table: 0}}, 256)
	full := machineOf(tlb, wc)
	checkFill(t, "both full", full, 516, bitsAdd, full)
	checkAccess(t, "both full", full, 516, 1, bitsAdd, full, impl.Seen{Page: 516, Need: 1, Kind: impl.KOk, Out: 77})
	m := machineOf(tlb[:255], wc[:255])
	want := machineOf(append(slices.Clone(tlb[:255]), tlbPage), append(slices.Clone(wc[:255]), wcMid))
	checkFill(t, "room for one each", m, 516, bitsAdd, want)
	m = machineOf(tlb, wc[:254])
	want = machineOf(tlb, append(slices.Clone(wc[:254]), wcMid, wcLast))
	checkFill(t, "room for two tables", m, 516, bitsAdd, want)
	m = machineOf(tlb[:255], wc)
	want = machineOf(append(slices.Clone(tlb[:255]), tlbPage), wc)
	checkFill(t, "walk cache full", m, 516, bitsAdd, want)
	used := machineOf(tlb, append(slices.Clone(wc[:255]), impl.Wc{Level: 3, Page: 512, Table: 2}))
	sees(t, "the last entry is used", used, 527, 1, bitWc, impl.KOk, 65535)
}

// Level 3 comes before level 2, then the first in the list.
func TestBeginInWalkCache(t *testing.T) {
	m := machineOf(nil, []impl.Wc{{Level: 2, Page: 512, Table: 1}, {Level: 3, Page: 512, Table: 2}, wcMid, wcLast})
	sees(t, "bit 0 clear", m, 516, 1, 65535&^(bitWc|bitTlb), impl.KOk, 77)
	sees(t, "first of level 3", m, 516, 1, bitWc, impl.KFault, 0)
	sees(t, "first of level 3", m, 527, 1, bitWc, impl.KOk, 65535)
	sees(t, "level 2 for another group", m, 631, 1, bitWc, impl.KFault, 0)
	m.Wc = []impl.Wc{wcMid, {Level: 2, Page: 512, Table: 1}, wcLast, {Level: 3, Page: 512, Table: 2}}
	sees(t, "first of level 3", m, 516, 1, bitWc, impl.KOk, 77)
	sees(t, "first of level 2", m, 631, 1, bitWc, impl.KOk, 55)
	sees(t, "none covers", m, 3855, 4, bitWc, impl.KOk, 15)
	m.Wc = []impl.Wc{{Level: 3, Page: 496, Table: 2}, {Level: 3, Page: 528, Table: 2}, {Level: 2, Page: 256, Table: 1}, {Level: 2, Page: 768, Table: 1}}
	sees(t, "neighbours", m, 516, 1, bitWc, impl.KOk, 77)
	sees(t, "neighbours", m, 767, 1, bitWc, impl.KOk, 65535)
	// no level-1 word is read on the way, and no level-2 word
	m = machineOf(nil, []impl.Wc{wcMid, wcLast})
	put(m.Mem, 0, 2, 0)
	sees(t, "level 1 is broken", m, 631, 1, bitWc, impl.KOk, 55)
	sees(t, "level 1 is broken", m, 631, 1, 0, impl.KFault, 0)
	put(m.Mem, 3, 0, 0)
	sees(t, "level 2 is broken", m, 516, 1, bitWc, impl.KOk, 77)
	checkFill(t, "what it adds", m, 516, bitWc|bitsAdd, with(m, func(m *impl.Machine) { m.Tlb = []impl.Tlb{tlbPage} }))
}

// The first and the last page of what an entry of the walk cache covers.
func TestWalkCacheEdges(t *testing.T) {
	m := impl.Machine{Mem: memOf(2), Wc: []impl.Wc{{Level: 3, Page: 528, Table: 1}, {Level: 2, Page: 256, Table: 1}}}
	for i := range 16 {
		put(m.Mem, 1, i, tableWord(511))
	}
	for _, page := range []int{528, 543, 256, 511} {
		sees(t, "covered", m, page, 1, bitWc, impl.KBad, 0)
	}
	for _, page := range []int{527, 544, 255, 512, 0, 4095} {
		sees(t, "not covered", m, page, 1, bitWc, impl.KFault, 0)
	}
}

func TestDoomedWalks(t *testing.T) {
	both := []impl.Wc{doomedWc(wcMid), doomedWc(wcLast)}
	m := machineOf(nil, both[:1])
	checkFill(t, "by way of level 2", m, 516, bitWc|bitsAdd, machineOf([]impl.Tlb{doomedTlb(tlbPage)}, both))
	block := impl.Tlb{Page: 624, Size: 16, Out: 48, Perm: 3, Doomed: true}
	checkFill(t, "block by way of level 2", m, 631, bitWc|bitsAdd, machineOf([]impl.Tlb{block}, both[:1]))
	m = machineOf(nil, []impl.Wc{wcMid, both[1]})
	checkFill(t, "by way of level 3", m, 516, bitWc|bitsAdd, machineOf([]impl.Tlb{doomedTlb(tlbPage)}, m.Wc))
	checkAccess(t, "access", m, 516, 1, bitWc|bitAddTlb, machineOf([]impl.Tlb{doomedTlb(tlbPage)}, m.Wc), impl.Seen{Page: 516, Need: 1, Kind: impl.KOk, Out: 77})
	m = machineOf(nil, both)
	checkFill(t, "not by way of them", m, 516, bitsAdd, machineOf([]impl.Tlb{tlbPage}, []impl.Wc{both[0], both[1], wcMid, wcLast}))
	m = machineOf(nil, []impl.Wc{doomedWc(wcMid), wcLast, doomedWc(wcLast)})
	checkFill(t, "by way of the first", m, 516, bitWc|bitsAdd, machineOf([]impl.Tlb{tlbPage}, m.Wc))
	m = machineOf([]impl.Tlb{tlbPage}, both)
	checkFill(t, "beside one that stays", m, 516, bitWc|bitsAdd, machineOf([]impl.Tlb{tlbPage, doomedTlb(tlbPage)}, both))
	m = machineOf([]impl.Tlb{doomedTlb(tlbPage)}, nil)
	checkFill(t, "beside one that goes", m, 516, bitWc|bitAddTlb, machineOf([]impl.Tlb{doomedTlb(tlbPage), tlbPage}, nil))
	sees(t, "a doomed entry is still used", m, 516, 1, bitTlb, impl.KOk, 77)
}

// lateRow is a pending write to the word that is read at a level.
type lateRow struct {
	bit  int
	addr int
	word uint64
	kind int
	out  int
}

func TestLateWritesAtEachLevel(t *testing.T) {
	rows := []lateRow{
		{bitLate1, 2, 0, impl.KFault, 0},
		{bitLate1, 2, 1, impl.KBad, 0},
		{bitLate1, 2, tableWord(6), impl.KBad, 0},
		{bitLate1, 2, tableWord(5), impl.KFault, 0},
		{bitLate2, 48, 0, impl.KFault, 0},
		{bitLate2, 48, wordOf(1, 1, 1), impl.KBad, 0},
		{bitLate2, 48, wordOf(0, 1, 160), impl.KOk, 164},
		{bitLate2, 48, tableWord(2), impl.KFault, 0},
		{bitLate3, 84, 2, impl.KFault, 0},
		{bitLate3, 84, tableWord(1), impl.KBad, 0},
		{bitLate3, 84, wordOf(1, 3, 4), impl.KOk, 4},
		{bitLate3, 84, wordOf(1, 2, 4), impl.KPerm, 0},
	}
	for _, row := range rows {
		m := machineOf(nil, nil)
		m.Pend = []impl.Write{{Addr: row.addr, Word: row.word}}
		for choice := 0; choice < 64; choice += 2 {
			if choice&row.bit != 0 {
				sees(t, "visible", m, 516, 1, choice|unusedHigh, row.kind, row.out)
			} else {
				sees(t, "not visible yet", m, 516, 1, choice|unusedHigh, impl.KOk, 77)
			}
		}
	}
}

func TestLateWritesLastOne(t *testing.T) {
	m := machineOf(nil, nil)
	m.Pend = []impl.Write{{Addr: 84, Word: wordOf(1, 1, 1)}, {Addr: 83, Word: 1}, {Addr: 84, Word: wordOf(1, 1, 2)}, {Addr: 85, Word: 0}}
	sees(t, "the last", m, 516, 1, bitsLate, impl.KOk, 2)
	m.Pend = append(m.Pend, impl.Write{Addr: 84, Word: 0})
	sees(t, "a last 0", m, 516, 1, bitsLate, impl.KFault, 0)
	m.Pend = append(m.Pend, impl.Write{Addr: 84, Word: wordOf(1, 5, 77)})
	sees(t, "back again", m, 516, 1, bitsLate, impl.KOk, 77)
	m.Pend = []impl.Write{{Addr: 83, Word: 1}, {Addr: 85, Word: 1}, {Addr: 47, Word: 1}, {Addr: 1, Word: 1}, {Addr: 3, Word: 1}}
	sees(t, "other words", m, 516, 1, bitsLate, impl.KOk, 77)
}

// What is added by way of late words is theirs, and the writes stay pending.
func TestLateWritesAndCaches(t *testing.T) {
	m := machineOf(nil, nil)
	m.Pend = []impl.Write{{Addr: 2, Word: tableWord(4)}, {Addr: 65, Word: wordOf(0, 2, 320)}, {Addr: 64, Word: tableWord(2)}, {Addr: 36, Word: wordOf(1, 1, 7)}}
	want := with(m, func(m *impl.Machine) {
		m.Wc = []impl.Wc{{Level: 2, Page: 512, Table: 4}, {Level: 3, Page: 512, Table: 2}}
		m.Tlb = []impl.Tlb{{Page: 516, Size: 1, Out: 7, Perm: 1}}
	})
	checkFill(t, "new tables", m, 516, bitsLate|bitsAdd, want)
	want = with(m, func(m *impl.Machine) {
		m.Wc = []impl.Wc{{Level: 2, Page: 512, Table: 4}}
		m.Tlb = []impl.Tlb{{Page: 528, Size: 16, Out: 320, Perm: 2}}
	})
	checkFill(t, "new block", m, 540, bitsLate|bitsAdd, want)
	m.Wc = []impl.Wc{{Level: 2, Page: 512, Table: 4}}
	sees(t, "level 2 in a cached table", m, 516, 1, bitWc|bitLate2, impl.KFault, 0)
	sees(t, "levels 2 and 3 in a cached table", m, 516, 1, bitWc|bitLate2|bitLate3, impl.KOk, 7)
	sees(t, "level 1 alone", m, 540, 2, bitWc|bitLate1, impl.KFault, 0)
	sees(t, "level 2 alone", m, 540, 2, bitWc|bitLate2, impl.KOk, 332)
}

func TestTlbHits(t *testing.T) {
	m := machineOf([]impl.Tlb{{Page: 624, Size: 16, Out: 160, Perm: 6}, {Page: 516, Size: 1, Out: 9, Perm: 2}}, nil)
	adds := bitTlb | bitWc | bitsAdd | bitsLate
	for i := range 16 {
		checkAccess(t, "in the block", m, 624+i, 2, adds, m, impl.Seen{Page: 624 + i, Need: 2, Kind: impl.KOk, Out: 160 + i})
	}
	checkAccess(t, "on the page", m, 516, 2, adds, m, impl.Seen{Page: 516, Need: 2, Kind: impl.KOk, Out: 9})
	checkAccess(t, "permissions of the entry", m, 516, 1, adds, m, impl.Seen{Page: 516, Need: 1, Kind: impl.KPerm})
	sees(t, "bit 7 clear", m, 516, 1, adds&^bitTlb, impl.KOk, 77)
	for _, page := range []int{515, 517, 623, 640} {
		sees(t, "beside the entries", m, page, 1, bitTlb, impl.KFault, 0)
	}
	want := with(m, func(m *impl.Machine) { m.Tlb = append(m.Tlb, impl.Tlb{Page: 767, Size: 1, Out: 65535, Perm: 1}) })
	checkAccess(t, "a miss", m, 767, 1, bitTlb|bitAddTlb, want, impl.Seen{Page: 767, Need: 1, Kind: impl.KOk, Out: 65535})
	checkFill(t, "Fill asks no TLB", machineOf([]impl.Tlb{{Page: 516, Size: 1, Out: 9, Perm: 2}}, nil), 516, bitTlb|bitAddTlb, machineOf([]impl.Tlb{{Page: 516, Size: 1, Out: 9, Perm: 2}, tlbPage}, nil))
}

type pairRow struct {
	name     string
	a, b     impl.Tlb
	conflict bool
	page     int
}

// page is one that both cover, or -1 where there is none.
func pairRows() []pairRow {
	one := impl.Tlb{Page: 640, Size: 1, Out: 32, Perm: 3}
	wide := impl.Tlb{Page: 640, Size: 16, Out: 32, Perm: 3}
	at := func(e impl.Tlb, page int, out int, perm int) impl.Tlb {
		return impl.Tlb{Page: page, Size: e.Size, Out: out, Perm: perm, Doomed: e.Doomed}
	}
	return []pairRow{
		{"the same twice", one, one, false, 640},
		{"the same, doomed", one, doomedTlb(one), false, 640},
		{"wide, the same, doomed", doomedTlb(wide), wide, false, 655},
		{"another Out", one, at(one, 640, 33, 3), true, 640},
		{"another Perm", one, at(one, 640, 32, 2), true, 640},
		{"another Size that maps alike", one, wide, true, 640},
		{"another Page, alike within", wide, at(one, 655, 47, 3), true, 655},
		{"wide, another Out", wide, at(wide, 640, 48, 3), true, 648},
		{"wide, another Perm", wide, at(doomedTlb(wide), 640, 32, 7), true, 655},
		{"side by side", one, at(one, 641, 32, 3), false, -1},
		{"behind the wide one", wide, at(one, 656, 9, 1), false, -1},
		{"ahead of the wide one", wide, at(one, 639, 9, 1), false, -1},
		{"two wide ones side by side", wide, at(wide, 656, 64, 1), false, -1},
	}
}

func TestConflict(t *testing.T) {
	other := impl.Tlb{Page: 16, Size: 16, Out: 48, Perm: 1}
	for _, row := range pairRows() {
		for _, tlb := range [][]impl.Tlb{{row.a, row.b}, {row.b, row.a}, {other, row.a, other, row.b}, {row.a, row.a, row.b, other}} {
			m := machineOf(tlb, nil)
			arg := roomy(m)
			if got := impl.Conflict(arg); got != row.conflict {
				t.Errorf("%s: Conflict is %v", row.name, got)
			}
			if !sameMachine(arg, m) || !roomStands(arg) {
				t.Errorf("%s: Conflict changed its argument", row.name)
			}
			if row.conflict {
				checkAccess(t, row.name, m, row.page, 1, 65535, m, impl.Seen{Page: row.page, Need: 1, Kind: impl.KConflict})
			} else if row.page >= 0 {
				sees(t, row.name, m, row.page, 2, bitTlb, impl.KOk, row.a.Out+row.page-row.a.Page)
			}
		}
	}
	if impl.Conflict(machineOf(nil, nil)) || impl.Conflict(impl.Machine{}) || impl.Conflict(machineOf([]impl.Tlb{tlbPage}, nil)) {
		t.Error("a conflict without two entries")
	}
}

// A conflict elsewhere in the TLB is none for the pages beside it, and the
// walk cache has no part in conflicts.
func TestConflictIsOfThePage(t *testing.T) {
	m := machineOf([]impl.Tlb{{Page: 640, Size: 16, Out: 32, Perm: 1}, {Page: 645, Size: 1, Out: 5, Perm: 1}}, nil)
	sees(t, "beside", m, 644, 1, bitTlb, impl.KOk, 36)
	sees(t, "on the page", m, 645, 1, bitTlb, impl.KConflict, 0)
	sees(t, "without the TLB", m, 645, 1, 0, impl.KFault, 0)
	sees(t, "no need is held", m, 645, 4, bitTlb, impl.KConflict, 0)
	m = machineOf(nil, []impl.Wc{{Level: 2, Page: 512, Table: 1}, {Level: 2, Page: 512, Table: 3}})
	if impl.Conflict(m) {
		t.Error("a conflict of the walk cache")
	}
}
