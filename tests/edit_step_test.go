package tests

import (
	"math"
	"slices"
	"testing"

	"loop.example/s0047/impl"
)

var dsb = impl.Op{Kind: impl.ODsb}

func write(addr int, word uint64) impl.Op {
	return impl.Op{Kind: impl.OWrite, A: addr, Word: word}
}

func tlbi(first int, pages int) impl.Op {
	return impl.Op{Kind: impl.OTlbi, A: first, B: pages}
}

func free(frame int) impl.Op {
	return impl.Op{Kind: impl.OFree, A: frame}
}

func checkStep(t *testing.T, name string, m impl.Machine, op impl.Op, wantCode int, want impl.Machine) {
	t.Helper()
	checkAnswer(t, name, m, want, func(a impl.Machine) impl.Machine {
		t.Helper()
		got, code := impl.Step(a, op)
		if code != wantCode {
			t.Fatalf("%s: %v gives code %d, want %d", name, op, code, wantCode)
		}
		return got
	})
}

// checkRefused asks for the machine as it was.
func checkRefused(t *testing.T, name string, m impl.Machine, op impl.Op, code int) {
	t.Helper()
	checkStep(t, name, m, op, code, m)
}

// checkWritten asks for one more pending write and nothing else.
func checkWritten(t *testing.T, name string, m impl.Machine, addr int, word uint64) {
	t.Helper()
	want := with(m, func(m *impl.Machine) { m.Pend = append(m.Pend, impl.Write{Addr: addr, Word: word}) })
	checkStep(t, name, m, write(addr, word), 0, want)
}

func TestEditConstants(t *testing.T) {
	got := []int{impl.MaxOps, impl.MaxEvents, impl.OWrite, impl.ODsb, impl.OTlbi, impl.OFree, impl.EStep, impl.EFill, impl.EDrop, impl.EForget, impl.EAccess}
	want := []int{20000, 10000, 1, 2, 3, 4, 0, 1, 2, 3, 4}
	if !slices.Equal(got, want) {
		t.Errorf("constants are %v, want %v", got, want)
	}
}

func TestStepMachineNotValid(t *testing.T) {
	for _, row := range slices.Concat(wrongMemories(), wrongTlbs(), wrongWcs()) {
		m := with(busyMachine(), row.spoil)
		for _, op := range []impl.Op{write(0, 0), dsb, tlbi(0, 1), free(4), {}, write(-1, 0), tlbi(0, 0), free(0)} {
			checkStep(t, row.name, m, op, 9, impl.Machine{})
		}
	}
}

func TestStepMachineJustValid(t *testing.T) {
	for _, row := range justValid() {
		m := with(busyMachine(), row.spoil)
		want := cloneMachine(m)
		modelDsb(&want)
		checkStep(t, row.name, m, dsb, 0, want)
		want = cloneMachine(m)
		modelTlbi(&want, 0, 4096)
		checkStep(t, row.name, m, tlbi(0, 4096), 0, want)
		checkRefused(t, row.name, m, free(0), 4)
		if len(m.Pend) < 10000 {
			checkWritten(t, row.name, m, len(m.Mem.Words)-1, 2)
		}
	}
}

func TestStepNoSuchKind(t *testing.T) {
	for _, kind := range []int{math.MinInt, -4, -1, 0, 5, 6, 9, math.MaxInt} {
		checkRefused(t, "kind", busyMachine(), impl.Op{Kind: kind}, 1)
		checkRefused(t, "kind", busyMachine(), impl.Op{Kind: kind, A: 1, B: 1}, 1)
		checkRefused(t, "kind", busyMachine(), impl.Op{Kind: kind, A: 4}, 1)
	}
}

// Each condition broken alone.
func TestStepIllFormed(t *testing.T) {
	m := busyMachine()
	for _, addr := range []int{math.MinInt, -96, -1, 96, 97, 8192, math.MaxInt} {
		checkRefused(t, "A of a write", m, write(addr, 0), 1)
		checkRefused(t, "A of a write", m, write(addr, 3), 1)
	}
	for _, frame := range []int{math.MinInt, -1, 6, 7, 96, 512, math.MaxInt} {
		checkRefused(t, "A of a free", m, free(frame), 1)
	}
	for _, other := range []int{math.MinInt, -1, 1, 2, 16, math.MaxInt} {
		checkRefused(t, "B of a write", m, impl.Op{Kind: impl.OWrite, B: other}, 1)
		checkRefused(t, "A of a DSB", m, impl.Op{Kind: impl.ODsb, A: other}, 1)
		checkRefused(t, "B of a DSB", m, impl.Op{Kind: impl.ODsb, B: other}, 1)
		checkRefused(t, "B of a free", m, impl.Op{Kind: impl.OFree, A: 4, B: other}, 1)
		checkRefused(t, "B of a free that is refused too", m, impl.Op{Kind: impl.OFree, A: 0, B: other}, 1)
	}
	for _, word := range []uint64{1, 2, 1 << 12, 1 << 63, math.MaxUint64} {
		checkRefused(t, "Word of a DSB", m, impl.Op{Kind: impl.ODsb, Word: word}, 1)
		checkRefused(t, "Word of a TLBI", m, impl.Op{Kind: impl.OTlbi, B: 1, Word: word}, 1)
		checkRefused(t, "Word of a free", m, impl.Op{Kind: impl.OFree, A: 4, Word: word}, 1)
	}
	// a write that would have another code if it were well formed
	checkRefused(t, "B beside code 2", m, impl.Op{Kind: impl.OWrite, A: 2, B: 1, Word: tableWord(4)}, 1)
	checkRefused(t, "B beside code 3", m, impl.Op{Kind: impl.OWrite, A: 48 + 8, B: -1, Word: tableWord(4)}, 1)
}

func TestStepTlbiIllFormed(t *testing.T) {
	m := busyMachine()
	rows := [][2]int{{-1, 1}, {-1, 2}, {-4096, 4097}, {4096, 1}, {4097, 1}, {0, 0}, {5, 0}, {5, -1}, {4095, -1}, {0, 4097}, {1, 4096}, {4095, 2}, {2048, 2049},
		{4096, 0}, {math.MinInt, 1}, {math.MaxInt, 1}, {0, math.MinInt}, {0, math.MaxInt}, {1, math.MaxInt}, {4095, math.MaxInt}, {math.MaxInt, math.MaxInt}, {math.MinInt, math.MinInt}, {math.MinInt, math.MaxInt}}
	for _, row := range rows {
		checkRefused(t, "A and B of a TLBI", m, tlbi(row[0], row[1]), 1)
	}
}

func TestStepFullPend(t *testing.T) {
	m := impl.Machine{Mem: smallTree(), Pend: slices.Repeat([]impl.Write{{Addr: 80, Word: 4}}, 9998)}
	checkWritten(t, "room for two", m, 95, 6)
	m.Pend = append(m.Pend, impl.Write{Addr: 95, Word: 6})
	checkWritten(t, "room for one", m, 0, 8)
	m.Pend = append(m.Pend, impl.Write{Addr: 0, Word: 8})
	checkRefused(t, "full", m, write(0, 0), 1)
	checkRefused(t, "full, a word that is there", m, write(84, wordOf(1, 5, 77)), 1)
	checkRefused(t, "full, a valid word unbroken", m, write(84, wordOf(1, 5, 78)), 1)
	checkStep(t, "full, TLBI", m, tlbi(0, 4096), 0, m)
	checkStep(t, "full, free", m, free(4), 0, m)
	empty := with(m, func(m *impl.Machine) { m.Pend = nil; m.Mem.Words[80] = 4; m.Mem.Words[95] = 6; m.Mem.Words[0] = 8 })
	checkStep(t, "full, DSB", m, dsb, 0, empty)
}

// A word with bit 0 clear may be written anywhere and at any time.
func TestWriteInvalidWords(t *testing.T) {
	m := busyMachine()
	for _, word := range []uint64{0, 2, 1 << 12, math.MaxUint64 - 1, tableWord(3) &^ 1} {
		for addr := range m.Mem.Words {
			checkWritten(t, "bit 0 clear", m, addr, word)
		}
	}
}

// Every valid word of a place must be broken first; those of other frames not.
func TestWriteOverValidWords(t *testing.T) {
	m := machineOf(nil, nil)
	for addr, old := range m.Mem.Words {
		for _, word := range []uint64{1, math.MaxUint64, tableWord(4), wordOf(0, 3, 32), wordOf(1, 1, 5)} {
			if old%2 == 1 {
				checkRefused(t, "unbroken", m, write(addr, word), 2)
			} else {
				checkWritten(t, "broken", m, addr, word)
			}
		}
		if old%2 == 1 {
			checkWritten(t, "the same word", m, addr, old)
			checkRefused(t, "the same but for one bit", m, write(addr, old^1<<63), 2)
		}
		checkWritten(t, "invalid", m, addr, old&^1)
	}
	put(m.Mem, 4, 9, wordOf(1, 1, 5))
	checkWritten(t, "a frame that is no place", m, 4*16+9, wordOf(1, 1, 6))
	put(m.Mem, 5, 4, math.MaxUint64)
	checkRefused(t, "a bad word that was there", m, write(84, wordOf(1, 1, 6)), 2)
	checkWritten(t, "a bad word again", m, 84, math.MaxUint64)
}

// The old word and the places are those of the latest memory.
func TestWriteLooksAtLatest(t *testing.T) {
	late := func(writes ...impl.Write) impl.Machine {
		m := machineOf(nil, nil)
		m.Pend = writes
		return m
	}
	page := wordOf(1, 1, 5)
	checkWritten(t, "broken, but late", late(impl.Write{Addr: 84}), 84, page)
	checkWritten(t, "broken and made, the same", late(impl.Write{Addr: 84}, impl.Write{Addr: 84, Word: page}), 84, page)
	checkRefused(t, "broken and made, another", late(impl.Write{Addr: 84}, impl.Write{Addr: 84, Word: page}), write(84, wordOf(1, 5, 77)), 2)
	checkRefused(t, "the word of Mem alone", late(impl.Write{Addr: 84, Word: page}), write(84, wordOf(1, 5, 77)), 2)
	checkRefused(t, "valid in the latest alone", late(impl.Write{Addr: 85, Word: page}), write(85, wordOf(1, 5, 77)), 2)
	checkWritten(t, "no place of the latest any more", late(impl.Write{Addr: 48}), 84, page)
	checkWritten(t, "no place since level 1 is broken", late(impl.Write{Addr: 2}), 48, page)
	filled := with(late(impl.Write{Addr: 48}, impl.Write{Addr: 49, Word: tableWord(4)}), func(m *impl.Machine) { m.Mem.Words[64] = page })
	checkRefused(t, "a place of the latest alone", filled, write(64, wordOf(1, 1, 6)), 2)
	checkWritten(t, "the same word at a place of the latest alone", filled, 64, page)
	filled.Pend = filled.Pend[:1]
	checkWritten(t, "not a place yet", filled, 64, wordOf(1, 1, 6))
}

// Code 3 by places of one memory that the other does not have.
func TestWriteCachedLooksAtLatest(t *testing.T) {
	page := wordOf(1, 1, 5)
	m := machineOf([]impl.Tlb{{Page: 530, Size: 1, Out: 1, Perm: 1}}, nil)
	checkWritten(t, "no place covers page 530 by frame 4", m, 66, page)
	m.Pend = []impl.Write{{Addr: 49, Word: tableWord(4)}}
	checkRefused(t, "a place of the latest alone", m, write(66, page), 3)
	checkWritten(t, "a neighbour", m, 67, page)
	m.Pend = append(m.Pend, impl.Write{Addr: 49})
	checkWritten(t, "a place no more", m, 66, page)
	m = machineOf([]impl.Tlb{{Page: 514, Size: 1, Out: 1, Perm: 1}}, nil)
	checkRefused(t, "a place of both", m, write(82, page), 3)
	m.Pend = []impl.Write{{Addr: 48}}
	checkWritten(t, "a place of Mem alone", m, 82, page)
	m.Pend = []impl.Write{{Addr: 82, Word: page}}
	checkWritten(t, "valid in the latest, the same", m, 82, page)
	checkRefused(t, "valid in the latest, another", m, write(82, wordOf(1, 1, 6)), 2)
	m = machineOf([]impl.Tlb{tlbPage}, nil)
	m.Pend = []impl.Write{{Addr: 84}}
	checkRefused(t, "broken in the latest", m, write(84, wordOf(1, 5, 77)), 3)
}

// What an entry of the TLB covers against what entries of each level cover.
func TestWriteCachedInTlb(t *testing.T) {
	rows := []struct {
		addr  int
		first int
		pages int
	}{{0, 0, 256}, {1, 256, 256}, {14, 3584, 256}, {49, 528, 16}, {62, 736, 16}, {31, 4080, 16}, {81, 513, 1}, {95, 527, 1}, {32, 752, 1}}
	for _, row := range rows {
		last := row.first + row.pages - 1
		for _, e := range []impl.Tlb{{Page: row.first, Size: 1}, {Page: last, Size: 1}, {Page: row.first / 16 * 16, Size: 16}, {Page: last / 16 * 16, Size: 16}} {
			e.Perm = 1
			checkRefused(t, "covered", machineOf([]impl.Tlb{e}, nil), write(row.addr, tableWord(4)), 3)
			checkRefused(t, "covered, doomed", machineOf([]impl.Tlb{doomedTlb(e)}, nil), write(row.addr, 1), 3)
			checkRefused(t, "covered by the last", machineOf([]impl.Tlb{{Page: 2000, Size: 1, Perm: 1}, e}, nil), write(row.addr, 1), 3)
			checkWritten(t, "bit 0 clear", machineOf([]impl.Tlb{e}, nil), row.addr, 2)
		}
		var beside []impl.Tlb
		for _, page := range []int{row.first - 1, last + 1} {
			if page >= 0 && page < 4096 {
				beside = append(beside, impl.Tlb{Page: page, Size: 1, Perm: 1})
			}
		}
		if row.pages >= 16 {
			for _, page := range []int{row.first - 16, last + 1} {
				if page >= 0 && page < 4096 {
					beside = append(beside, impl.Tlb{Page: page, Size: 16, Perm: 1})
				}
			}
		}
		checkWritten(t, "beside", machineOf(beside, nil), row.addr, tableWord(4))
	}
}

// Entries of the walk cache count below the level of the place alone.
func TestWriteCachedInWc(t *testing.T) {
	mid := func(page int) impl.Wc { return impl.Wc{Level: 2, Page: page, Table: 4} }
	last := func(page int) impl.Wc { return impl.Wc{Level: 3, Page: page, Table: 4} }
	rows := []struct {
		name string
		addr int
		wc   impl.Wc
		code int
	}{
		{"level 1 against level 2", 1, mid(256), 3},
		{"level 1 against level 2 beside", 1, mid(512), 0},
		{"level 1 against level 2 ahead", 1, mid(0), 0},
		{"level 1 against level 3", 1, last(256), 3},
		{"level 1 against level 3 at the end", 1, last(496), 3},
		{"level 1 against level 3 behind", 1, last(512), 0},
		{"level 1 against level 3 ahead", 1, last(240), 0},
		{"level 2 against level 2", 49, mid(512), 0},
		{"level 2 against level 3", 49, last(528), 3},
		{"level 2 against level 3 ahead", 49, last(512), 0},
		{"level 2 against level 3 behind", 49, last(544), 0},
		{"level 3 against level 2", 81, mid(512), 0},
		{"level 3 against level 3", 81, last(512), 0},
	}
	for _, row := range rows {
		for _, e := range []impl.Wc{row.wc, doomedWc(row.wc)} {
			for _, m := range []impl.Machine{machineOf(nil, []impl.Wc{e}), machineOf(nil, []impl.Wc{mid(2560), last(2560), e})} {
				if row.code == 0 {
					checkWritten(t, row.name, m, row.addr, tableWord(4))
				} else {
					checkRefused(t, row.name, m, write(row.addr, tableWord(4)), row.code)
				}
				checkWritten(t, row.name, m, row.addr, 4)
			}
		}
	}
	checkRefused(t, "an entry of Tlb counts at every level", machineOf([]impl.Tlb{{Page: 513, Size: 1, Perm: 1}}, []impl.Wc{last(512)}), write(81, 1), 3)
}

// Word 16+i stands at two places: pages 0.. and 2304.. of level 2, or two groups
// of level 3.
func TestWriteFrameTwice(t *testing.T) {
	m := impl.Machine{Mem: memOf(3)}
	put(m.Mem, 0, 0, tableWord(1))
	put(m.Mem, 0, 9, tableWord(1))
	put(m.Mem, 1, 3, wordOf(0, 1, 16))
	tlb := func(page int) impl.Machine {
		return with(m, func(m *impl.Machine) { m.Tlb = []impl.Tlb{{Page: page, Size: 1, Out: 1, Perm: 1}} })
	}
	wc := func(level int, page int) impl.Machine {
		return with(m, func(m *impl.Machine) { m.Wc = []impl.Wc{{Level: level, Page: page, Table: 2}} })
	}
	checkWritten(t, "nothing cached", m, 18, tableWord(2))
	checkRefused(t, "cached at the first", tlb(32), write(18, tableWord(2)), 3)
	checkRefused(t, "cached at the second", tlb(2304+47), write(18, tableWord(2)), 3)
	checkRefused(t, "table cached at the second", wc(3, 2304+32), write(18, tableWord(2)), 3)
	checkWritten(t, "beside the second", tlb(2304+48), 18, tableWord(2))
	checkWritten(t, "level 2 at the second", wc(2, 2304), 18, tableWord(2))
	checkWritten(t, "another 256 pages", tlb(256+32), 18, tableWord(2))
	checkRefused(t, "unbroken", m, write(19, tableWord(2)), 2)
	checkRefused(t, "unbroken, cached at the first", tlb(48), write(19, tableWord(2)), 2)
	checkRefused(t, "unbroken, cached at the second", tlb(2304+48), write(19, tableWord(2)), 2)
	checkWritten(t, "the same word, cached at both", with(tlb(48), func(m *impl.Machine) { m.Tlb = append(m.Tlb, impl.Tlb{Page: 2304 + 48, Size: 16, Perm: 1}) }), 19, wordOf(0, 1, 16))
}

// Frame 1 is a table of level 2 and, below itself, one of level 3; what counts
// of the walk cache is another thing at each.
func TestWriteFrameAtTwoLevels(t *testing.T) {
	m := impl.Machine{Mem: memOf(2)}
	put(m.Mem, 0, 5, tableWord(1))
	put(m.Mem, 1, 6, tableWord(1))
	at := func(tlb []impl.Tlb, wc []impl.Wc) impl.Machine {
		return with(m, func(m *impl.Machine) { m.Tlb, m.Wc = tlb, wc })
	}
	checkWritten(t, "nothing cached", m, 16+9, wordOf(1, 1, 1))
	checkRefused(t, "level 2 has page 1280+144", at([]impl.Tlb{{Page: 1424, Size: 1, Perm: 1}}, nil), write(16+9, 1), 3)
	checkRefused(t, "level 3 has page 1280+96+9", at([]impl.Tlb{{Page: 1385, Size: 1, Perm: 1}}, nil), write(16+9, 1), 3)
	checkWritten(t, "neither has page 1384", at([]impl.Tlb{{Page: 1384, Size: 1, Perm: 1}}, nil), 16+9, 1)
	checkRefused(t, "level 3 below level 2", at(nil, []impl.Wc{{Level: 3, Page: 1424}}), write(16+9, 1), 3)
	checkWritten(t, "level 3 at level 3", at(nil, []impl.Wc{{Level: 3, Page: 1376}}), 16+9, 1)
	checkRefused(t, "unbroken", m, write(16+6, tableWord(0)), 2)
	circle := impl.Machine{Mem: memOf(1)}
	put(circle.Mem, 0, 5, tableWord(0))
	checkRefused(t, "frame 0 at all levels", with(circle, func(m *impl.Machine) { m.Tlb = []impl.Tlb{{Page: 0x557, Size: 1, Perm: 1}} }), write(7, 1), 3)
	checkRefused(t, "frame 0 at level 2", with(circle, func(m *impl.Machine) { m.Tlb = []impl.Tlb{{Page: 0x570, Size: 1, Perm: 1}} }), write(7, 1), 3)
	checkRefused(t, "frame 0 at level 1", with(circle, func(m *impl.Machine) { m.Tlb = []impl.Tlb{{Page: 0x700, Size: 1, Perm: 1}} }), write(7, 1), 3)
	checkWritten(t, "frame 0 nowhere", with(circle, func(m *impl.Machine) { m.Tlb = []impl.Tlb{{Page: 0x558, Size: 1, Perm: 1}} }), 7, 1)
}

// Bad words and frames that are not there make no tree, and the places are
// looked at all the same.
func TestWriteWithoutTree(t *testing.T) {
	m := machineOf([]impl.Tlb{tlbPage}, nil)
	put(m.Mem, 0, 0, math.MaxUint64)
	put(m.Mem, 0, 1, tableWord(6))
	put(m.Mem, 3, 3, wordOf(1, 1, 1))
	put(m.Mem, 5, 4, 0)
	if _, tree := impl.Places(m.Mem); tree {
		t.Fatal("a tree")
	}
	checkRefused(t, "cached", m, write(84, wordOf(1, 1, 6)), 3)
	checkRefused(t, "a bad word", m, write(0, tableWord(4)), 2)
	checkRefused(t, "a frame that is not there", m, write(1, tableWord(4)), 2)
	checkRefused(t, "bad at its level", m, write(51, tableWord(4)), 2)
	checkWritten(t, "a bad word again", m, 0, math.MaxUint64)
	checkWritten(t, "a word beside", m, 83, wordOf(1, 1, 6))
	checkWritten(t, "a bad word is made", m, 83, math.MaxUint64)
}

func TestWriteFirstAndLastWord(t *testing.T) {
	m := impl.Machine{Mem: memOf(512)}
	for _, addr := range []int{0, 15, 16, 8191} {
		checkWritten(t, "512 frames", m, addr, tableWord(511))
	}
	m = impl.Machine{Mem: memOf(1), Tlb: []impl.Tlb{{Page: 4095, Size: 1, Perm: 1}}}
	checkRefused(t, "the last entry of level 1", m, write(15, 3), 3)
	checkWritten(t, "the entry ahead of it", m, 14, 3)
}

func TestDsbPendingWrites(t *testing.T) {
	m := machineOf(nil, nil)
	m.Pend = []impl.Write{{Addr: 84, Word: 1}, {Addr: 7, Word: 6}, {Addr: 84, Word: 0}, {Addr: 95, Word: 5}, {Addr: 84, Word: wordOf(1, 2, 9)}, {Addr: 7, Word: 8}, {Addr: 0, Word: math.MaxUint64}}
	want := machineOf(nil, nil)
	want.Mem.Words[84], want.Mem.Words[7], want.Mem.Words[95], want.Mem.Words[0] = wordOf(1, 2, 9), 8, 5, math.MaxUint64
	checkStep(t, "the last write to each word", m, dsb, 0, want)
	checkStep(t, "nothing pending", want, dsb, 0, want)
	m = machineOf(nil, nil)
	m.Pend = []impl.Write{{Addr: 84}, {Addr: 84, Word: wordOf(1, 5, 77)}}
	checkStep(t, "broken and made alike", m, dsb, 0, machineOf(nil, nil))
}

func TestDsbDoomedEntries(t *testing.T) {
	a, b, c := impl.Tlb{Page: 1, Size: 1, Out: 1, Perm: 1}, impl.Tlb{Page: 16, Size: 16, Out: 16, Perm: 2}, impl.Tlb{Page: 1, Size: 1, Out: 3, Perm: 3}
	d, e := impl.Wc{Level: 3, Page: 0, Table: 1}, impl.Wc{Level: 2, Page: 256, Table: 2}
	m := machineOf([]impl.Tlb{doomedTlb(a), a, doomedTlb(b), doomedTlb(c), c, b, doomedTlb(c)}, []impl.Wc{d, doomedWc(d), doomedWc(e), e})
	checkStep(t, "among others", m, dsb, 0, machineOf([]impl.Tlb{a, c, b}, []impl.Wc{d, e}))
	m = machineOf([]impl.Tlb{doomedTlb(a)}, []impl.Wc{doomedWc(d), doomedWc(e)})
	checkStep(t, "all", m, dsb, 0, machineOf(nil, nil))
	m = machineOf([]impl.Tlb{b, a, a}, []impl.Wc{e, d})
	checkStep(t, "none", m, dsb, 0, m)
	m.Pend = []impl.Write{{Addr: 84}}
	m.Wc[1].Doomed = true
	want := machineOf(m.Tlb, []impl.Wc{e})
	want.Mem.Words[84] = 0
	checkStep(t, "with a write", m, dsb, 0, want)
}

// TLBI against an entry of each kind: in whole, in part, not at all.
func TestTlbiCovers(t *testing.T) {
	tlb := []impl.Tlb{{Page: 515, Size: 1, Out: 1, Perm: 1}, {Page: 512, Size: 16, Out: 16, Perm: 1}, {Page: 528, Size: 16, Out: 16, Perm: 1}, {Page: 0, Size: 1, Perm: 1}, {Page: 4095, Size: 1, Perm: 1}, {Page: 4080, Size: 16, Perm: 1}}
	wc := []impl.Wc{{Level: 2, Page: 512, Table: 3}, {Level: 3, Page: 512, Table: 5}, {Level: 3, Page: 528, Table: 2}, {Level: 2, Page: 256}, {Level: 2, Page: 3840, Table: 1}, {Level: 3, Page: 0}}
	rows := []struct {
		first int
		pages int
		tlb   []int
		wc    []int
	}{
		{515, 1, []int{0, 1}, []int{0, 1}},
		{514, 1, []int{1}, []int{0, 1}},
		{516, 12, []int{1}, []int{0, 1}},
		{516, 13, []int{1, 2}, []int{0, 1, 2}},
		{512, 3, []int{1}, []int{0, 1}},
		{512, 4, []int{0, 1}, []int{0, 1}},
		{500, 12, nil, []int{3}},
		{500, 13, []int{1}, []int{0, 1, 3}},
		{543, 1, []int{2}, []int{0, 2}},
		{544, 1, nil, []int{0}},
		{767, 1, nil, []int{0}},
		{768, 1, nil, nil},
		{767, 2, nil, []int{0}},
		{255, 1, nil, nil},
		{256, 256, nil, []int{3}},
		{0, 1, []int{3}, []int{5}},
		{15, 1, nil, []int{5}},
		{16, 1, nil, nil},
		{1, 255, nil, []int{5}},
		{4095, 1, []int{4, 5}, []int{4}},
		{4080, 15, []int{5}, []int{4}},
		{4079, 1, nil, []int{4}},
		{3839, 1, nil, nil},
		{0, 4096, []int{0, 1, 2, 3, 4, 5}, []int{0, 1, 2, 3, 4, 5}},
	}
	for _, row := range rows {
		m := machineOf(tlb, wc)
		m.Pend = []impl.Write{{Addr: 84}}
		want := cloneMachine(m)
		for _, i := range row.tlb {
			want.Tlb[i].Doomed = true
		}
		for _, i := range row.wc {
			want.Wc[i].Doomed = true
		}
		checkStep(t, "TLBI", m, tlbi(row.first, row.pages), 0, want)
		checkStep(t, "TLBI again", want, tlbi(row.first, row.pages), 0, want)
	}
	bare := machineOf(nil, nil)
	checkStep(t, "nothing cached", bare, tlbi(0, 4096), 0, bare)
}

// TLBI dooms what is there when it is made: not what comes later, unless that
// comes by way of a doomed entry; and only the next DSB takes it out.
func TestTlbiThenDsb(t *testing.T) {
	m := machineOf([]impl.Tlb{tlbPage}, []impl.Wc{wcMid})
	m, _ = impl.Step(m, tlbi(516, 1))
	m = impl.Fill(m, 516, bitsAdd)
	m = impl.Fill(m, 767, bitWc|bitAddTlb)
	want := machineOf([]impl.Tlb{doomedTlb(tlbPage), tlbPage, {Page: 767, Size: 1, Out: 65535, Perm: 1, Doomed: true}}, []impl.Wc{doomedWc(wcMid), wcMid, wcLast})
	if !sameMachine(m, want) {
		t.Fatalf("before the DSB %v, want %v", m, want)
	}
	checkStep(t, "a write between", m, write(0, 0), 0, with(m, func(m *impl.Machine) { m.Pend = []impl.Write{{Addr: 0}} }))
	checkStep(t, "a free between", m, free(4), 0, m)
	checkStep(t, "the DSB", m, dsb, 0, machineOf([]impl.Tlb{tlbPage}, []impl.Wc{wcMid, wcLast}))
}

func TestFree(t *testing.T) {
	m := machineOf(nil, nil)
	for _, frame := range []int{0, 1, 2, 3, 5} {
		checkRefused(t, "a place", m, free(frame), 4)
	}
	checkStep(t, "no place", m, free(4), 0, m)
	put(m.Mem, 1, 1, wordOf(0, 1, 4<<4))
	put(m.Mem, 5, 0, wordOf(1, 1, 4))
	put(m.Mem, 5, 1, tableWord(4))
	put(m.Mem, 3, 1, tableWord(4)&^1)
	put(m.Mem, 3, 2, tableWord(4)|1<<5)
	checkStep(t, "words that name frame 4 and are no tables", m, free(4), 0, m)
	for _, e := range []impl.Wc{{Level: 2, Page: 0, Table: 4}, {Level: 3, Page: 4080, Table: 4}, {Level: 3, Page: 512, Table: 4, Doomed: true}} {
		cached := with(m, func(m *impl.Machine) { m.Wc = []impl.Wc{wcMid, e, wcLast} })
		checkRefused(t, "a table that an entry of Wc has", cached, free(4), 4)
		cached.Wc = []impl.Wc{wcMid, wcLast}
		checkStep(t, "entries of Wc that have others", cached, free(4), 0, cached)
	}
	tlb := with(m, func(m *impl.Machine) { m.Tlb = []impl.Tlb{{Page: 4, Size: 1, Out: 4, Perm: 1}} })
	checkStep(t, "an entry of Tlb has no table", tlb, free(4), 0, tlb)
	last := impl.Machine{Mem: memOf(512)}
	checkStep(t, "frame 511", last, free(511), 0, last)
	checkRefused(t, "frame 0 of one", impl.Machine{Mem: memOf(1)}, free(0), 4)
}

func TestFreeLooksAtBothMemories(t *testing.T) {
	m := machineOf(nil, nil)
	m.Pend = []impl.Write{{Addr: 2}}
	for _, frame := range []int{0, 1, 2, 3, 5} {
		checkRefused(t, "a place of Mem alone", m, free(frame), 4)
	}
	gone := with(m, func(m *impl.Machine) { modelDsb(m) })
	for _, frame := range []int{2, 3, 4, 5} {
		checkStep(t, "after the DSB", gone, free(frame), 0, gone)
	}
	checkRefused(t, "frame 1 is still there", gone, free(1), 4)
	m.Pend = []impl.Write{{Addr: 50, Word: tableWord(4)}}
	checkRefused(t, "level 3 of the latest alone", m, free(4), 4)
	m.Pend = []impl.Write{{Addr: 4, Word: tableWord(4)}}
	checkRefused(t, "level 2 of the latest alone", m, free(4), 4)
	m.Pend = append(m.Pend, impl.Write{Addr: 4, Word: tableWord(1)})
	checkStep(t, "pending, but not the last", m, free(4), 0, m)
	// a word of Mem below a table that the latest alone has, and the other way round
	m = machineOf(nil, nil)
	put(m.Mem, 4, 0, tableWord(2))
	put(m.Mem, 3, 15, 0)
	checkStep(t, "below a frame that is no place", m, free(2), 0, m)
	m.Pend = []impl.Write{{Addr: 4, Word: tableWord(4)}}
	checkRefused(t, "below a place of the latest", m, free(2), 4)
	m.Pend = []impl.Write{{Addr: 2}, {Addr: 50, Word: tableWord(4)}}
	checkStep(t, "late words of a frame that is a place of Mem alone", m, free(4), 0, m)
}
