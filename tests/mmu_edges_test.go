package tests

import (
	"math"
	"slices"
	"testing"

	"loop.example/s0047/impl"
)

const roomBehind = 3

// roomyList has room behind its end, with marks in it that must stay.
func roomyList[E any](list []E, mark E) []E {
	whole := make([]E, 0, len(list)+roomBehind)
	whole = append(whole, list...)
	for range roomBehind {
		whole = append(whole, mark)
	}
	return whole[:len(list)]
}

func marksStand[E comparable](list []E, mark E) bool {
	for _, e := range list[len(list) : len(list)+roomBehind] {
		if e != mark {
			return false
		}
	}
	return true
}

var (
	markWrite = impl.Write{Addr: -9, Word: 9}
	markTlb   = impl.Tlb{Page: -9, Size: -9}
	markWc    = impl.Wc{Level: -9, Page: -9}
)

func roomy(m impl.Machine) impl.Machine {
	return impl.Machine{Mem: impl.Mem{Words: roomyList(m.Mem.Words, 99)}, Pend: roomyList(m.Pend, markWrite), Tlb: roomyList(m.Tlb, markTlb), Wc: roomyList(m.Wc, markWc)}
}

func roomStands(m impl.Machine) bool {
	return marksStand(m.Mem.Words, 99) && marksStand(m.Pend, markWrite) && marksStand(m.Tlb, markTlb) && marksStand(m.Wc, markWc)
}

func spoilList[E any](list []E, junk E) {
	list = list[:cap(list)]
	for i := range list {
		list[i] = junk
	}
}

func spoil(m impl.Machine) {
	spoilList(m.Mem.Words, 77)
	spoilList(m.Pend, impl.Write{Addr: -7})
	spoilList(m.Tlb, impl.Tlb{Page: -7})
	spoilList(m.Wc, impl.Wc{Page: -7})
}

// checkAnswer also holds a call against its argument: not changed, not shared.
func checkAnswer(t *testing.T, name string, m impl.Machine, want impl.Machine, call func(impl.Machine) impl.Machine) {
	t.Helper()
	arg := roomy(m)
	got := call(arg)
	if !sameMachine(got, want) {
		t.Fatalf("%s: machine\n%v, want\n%v", name, got, want)
	}
	if !sameMachine(arg, m) || !roomStands(arg) {
		t.Fatalf("%s: the argument was changed", name)
	}
	spoil(got)
	if !sameMachine(arg, m) || !roomStands(arg) {
		t.Fatalf("%s: the argument changed with the answer", name)
	}
	got = call(arg)
	spoil(arg)
	if !sameMachine(got, want) {
		t.Fatalf("%s: the answer changed with the argument", name)
	}
}

func checkFill(t *testing.T, name string, m impl.Machine, page int, choice int, want impl.Machine) {
	t.Helper()
	checkAnswer(t, name, m, want, func(a impl.Machine) impl.Machine { return impl.Fill(a, page, choice) })
}

func checkDrop(t *testing.T, name string, m impl.Machine, which int, i int, want impl.Machine) {
	t.Helper()
	checkAnswer(t, name, m, want, func(a impl.Machine) impl.Machine { return impl.Drop(a, which, i) })
}

func checkAccess(t *testing.T, name string, m impl.Machine, page int, need int, choice int, want impl.Machine, wantSeen impl.Seen) {
	t.Helper()
	checkAnswer(t, name, m, want, func(a impl.Machine) impl.Machine {
		t.Helper()
		got, seen := impl.Access(a, page, need, choice)
		if seen != wantSeen {
			t.Fatalf("%s: sees %v, want %v", name, seen, wantSeen)
		}
		return got
	})
}

// sees asks for the outcome alone.
func sees(t *testing.T, name string, m impl.Machine, page int, need int, choice int, kind int, out int) {
	t.Helper()
	_, seen := impl.Access(m, page, need, choice)
	if want := (impl.Seen{Page: page, Need: need, Kind: kind, Out: out}); seen != want {
		t.Fatalf("%s: access to %d for %d with choice %d sees %v, want %v", name, page, need, choice, seen, want)
	}
}

// with gives a copy of the machine with something done to it.
func with(m impl.Machine, change func(*impl.Machine)) impl.Machine {
	m = cloneMachine(m)
	change(&m)
	return m
}

// busyMachine has something in every list, and a conflict on page 624.
func busyMachine() impl.Machine {
	return impl.Machine{
		Mem:  smallTree(),
		Pend: []impl.Write{{Addr: 5, Word: 1}, {Addr: 95, Word: wordOf(1, 7, 9)}, {Addr: 0, Word: 0}},
		Tlb:  []impl.Tlb{{Page: 624, Size: 16, Out: 48, Perm: 3}, {Page: 516, Size: 1, Out: 77, Perm: 5}, {Page: 624, Size: 1, Out: 48, Perm: 3, Doomed: true}},
		Wc:   []impl.Wc{{Level: 2, Page: 512, Table: 3}, {Level: 3, Page: 512, Table: 5, Doomed: true}},
	}
}

type machineRow struct {
	name  string
	spoil func(m *impl.Machine)
}

func wrongMemories() []machineRow {
	return []machineRow{
		{"no words", func(m *impl.Machine) { *m = impl.Machine{} }},
		{"no memory", func(m *impl.Machine) { *m = impl.Machine{Tlb: m.Tlb} }},
		{"a word too few", func(m *impl.Machine) { m.Mem.Words = m.Mem.Words[:95]; m.Pend = nil; m.Wc = nil }},
		{"a word too many", func(m *impl.Machine) { m.Mem.Words = append(m.Mem.Words, 0) }},
		{"513 frames", func(m *impl.Machine) { m.Mem.Words = append(m.Mem.Words, make([]uint64, 507*16)...) }},
		{"Addr -1", func(m *impl.Machine) { m.Pend[1].Addr = -1 }},
		{"Addr one too great", func(m *impl.Machine) { m.Pend[2].Addr = 96 }},
		{"Addr far below", func(m *impl.Machine) { m.Pend[0].Addr = math.MinInt }},
		{"Addr far above", func(m *impl.Machine) { m.Pend[0].Addr = math.MaxInt }},
		{"Pend too long", func(m *impl.Machine) { m.Pend = make([]impl.Write, 10001) }},
	}
}

func wrongTlbs() []machineRow {
	rows := []machineRow{{"Tlb too long", func(m *impl.Machine) { m.Tlb = slices.Repeat(m.Tlb[:1], 257); m.Tlb[3].Perm = 1 }}}
	for _, size := range []int{math.MinInt, -16, -1, 0, 2, 8, 15, 17, 32, 256, math.MaxInt} {
		rows = append(rows, machineRow{"Size", func(m *impl.Machine) { m.Tlb[1] = impl.Tlb{Size: size, Perm: 1} }})
	}
	for _, page := range oddPages {
		rows = append(rows, machineRow{"Page", func(m *impl.Machine) { m.Tlb[1].Page = page }})
	}
	for _, page := range []int{-16, 1, 8, 15, 623, 4088, 4095, 4096} {
		rows = append(rows, machineRow{"Page of 16", func(m *impl.Machine) { m.Tlb[1] = impl.Tlb{Page: page, Size: 16, Perm: 1} }})
	}
	for _, perm := range []int{math.MinInt, -1, 0, 8, 9, 15, math.MaxInt} {
		rows = append(rows, machineRow{"Perm", func(m *impl.Machine) { m.Tlb[2].Perm = perm }})
	}
	for _, out := range []int{math.MinInt, -1, 65536, math.MaxInt} {
		rows = append(rows, machineRow{"Out", func(m *impl.Machine) { m.Tlb[2].Out = out }})
	}
	for _, out := range []int{-16, 1, 15, 65535, 65536} {
		rows = append(rows, machineRow{"Out of 16", func(m *impl.Machine) { m.Tlb[0].Out = out }})
	}
	return rows
}

func wrongWcs() []machineRow {
	rows := []machineRow{{"Wc too long", func(m *impl.Machine) { m.Wc = slices.Repeat(m.Wc[:1], 257) }}}
	for _, level := range []int{math.MinInt, -1, 0, 1, 4, math.MaxInt} {
		rows = append(rows, machineRow{"Level", func(m *impl.Machine) { m.Wc[1] = impl.Wc{Level: level} }})
	}
	for _, page := range []int{-256, 1, 16, 128, 255, 4080, 4096, math.MinInt} {
		rows = append(rows, machineRow{"Page of level 2", func(m *impl.Machine) { m.Wc[0].Page = page }})
	}
	for _, page := range []int{-16, 1, 8, 15, 4095, 4096, math.MinInt} {
		rows = append(rows, machineRow{"Page of level 3", func(m *impl.Machine) { m.Wc[1].Page = page }})
	}
	for _, frame := range []int{math.MinInt, -1, 6, 512, math.MaxInt} {
		rows = append(rows, machineRow{"Table", func(m *impl.Machine) { m.Wc[1].Table = frame }})
	}
	return rows
}

func TestMachinesNotValid(t *testing.T) {
	if !impl.Conflict(busyMachine()) {
		t.Fatal("the machine to be spoilt has no conflict")
	}
	for _, row := range slices.Concat(wrongMemories(), wrongTlbs(), wrongWcs()) {
		m := with(busyMachine(), row.spoil)
		if modelValid(&m) {
			t.Fatalf("%s: the machine is valid: %v", row.name, m)
		}
		checkFill(t, row.name, m, 516, 112, impl.Machine{})
		checkAccess(t, row.name, m, 516, 1, 112, impl.Machine{}, impl.Seen{})
		checkAccess(t, row.name, m, 624, 1, 128, impl.Machine{}, impl.Seen{})
		checkDrop(t, row.name, m, 0, 0, impl.Machine{})
		checkDrop(t, row.name, m, 1, 0, impl.Machine{})
		checkDrop(t, row.name, m, 2, 0, impl.Machine{})
		if impl.Conflict(m) {
			t.Fatalf("%s: a conflict in a machine that is not valid", row.name)
		}
	}
}

// justValid has the last values that each condition still lets through.
func justValid() []machineRow {
	return []machineRow{
		{"as it is", func(m *impl.Machine) {}},
		{"memory alone", func(m *impl.Machine) { *m = impl.Machine{Mem: m.Mem} }},
		{"one frame", func(m *impl.Machine) { *m = impl.Machine{Mem: memOf(1)} }},
		{"512 frames", func(m *impl.Machine) { m.Mem.Words = append(m.Mem.Words, make([]uint64, 506*16)...) }},
		{"Addr first and last", func(m *impl.Machine) { m.Pend = []impl.Write{{Addr: 0}, {Addr: 95, Word: ^uint64(0)}} }},
		{"Pend full", func(m *impl.Machine) { m.Pend = slices.Repeat(m.Pend[:1], 10000) }},
		{"Tlb full", func(m *impl.Machine) { m.Tlb = slices.Repeat(m.Tlb[:1], 256) }},
		{"Wc full", func(m *impl.Machine) { m.Wc = slices.Repeat(m.Wc[:1], 256) }},
		{"Page 0 and 4095", func(m *impl.Machine) { m.Tlb[0] = impl.Tlb{Size: 1, Perm: 1}; m.Tlb[1].Page = 4095 }},
		{"Page 0 and 4080 of 16", func(m *impl.Machine) {
			m.Tlb = []impl.Tlb{{Page: 0, Size: 16, Perm: 7}, {Page: 4080, Size: 16, Perm: 1}}
		}},
		{"Out 0 and 65535", func(m *impl.Machine) { m.Tlb[1].Out = 0; m.Tlb[2].Out = 65535 }},
		{"Out 65520 of 16", func(m *impl.Machine) { m.Tlb[0].Out = 65520 }},
		{"Perm 1 and 7", func(m *impl.Machine) { m.Tlb[0].Perm = 1; m.Tlb[1].Perm = 7 }},
		{"Wc pages", func(m *impl.Machine) {
			m.Wc = []impl.Wc{{Level: 2, Page: 0, Table: 0}, {Level: 2, Page: 3840, Table: 5}, {Level: 3, Page: 0, Table: 0}, {Level: 3, Page: 4080, Table: 5}}
		}},
	}
}

func TestMachinesJustValid(t *testing.T) {
	for _, row := range justValid() {
		m := with(busyMachine(), row.spoil)
		checkDrop(t, row.name, m, 2, 0, m)
		checkFill(t, row.name, m, 2000, 0, m)
		checkAccess(t, row.name, m, 2000, 1, 0, m, impl.Seen{Page: 2000, Need: 1})
	}
}

func TestArgumentsOutOfRange(t *testing.T) {
	m := busyMachine()
	zero := impl.Machine{}
	for _, page := range oddPages {
		checkFill(t, "page", m, page, 112, zero)
		checkAccess(t, "page", m, page, 1, 112, zero, impl.Seen{})
		checkAccess(t, "page", m, page, 1, 128, zero, impl.Seen{})
	}
	for _, choice := range []int{math.MinInt, -65536, -1, 65536, 65537, math.MaxInt} {
		checkFill(t, "choice", m, 516, choice, zero)
		checkAccess(t, "choice", m, 516, 1, choice, zero, impl.Seen{})
	}
	for _, need := range []int{math.MinInt, -4, -2, -1, 0, 3, 5, 6, 7, 8, 16, math.MaxInt} {
		checkAccess(t, "need", m, 516, need, 0, zero, impl.Seen{})
		checkAccess(t, "need", m, 516, need, 128, zero, impl.Seen{})
	}
}

func TestArgumentsInRange(t *testing.T) {
	m := impl.Machine{Mem: smallTree()}
	checkFill(t, "page 0", m, 0, 112, m)
	checkFill(t, "page 4095", m, 4095, 0, m)
	whole := with(m, func(m *impl.Machine) {
		m.Tlb = []impl.Tlb{{Page: 516, Size: 1, Out: 77, Perm: 5}}
		m.Wc = []impl.Wc{{Level: 2, Page: 512, Table: 3}, {Level: 3, Page: 512, Table: 5}}
	})
	checkFill(t, "choice 0", m, 516, 0, m)
	checkFill(t, "choice 65535", m, 516, 65535, whole)
	checkAccess(t, "choice 65535", m, 516, 4, 65535, whole, impl.Seen{Page: 516, Need: 4, Kind: impl.KOk, Out: 77})
	checkAccess(t, "choice 65535, need 2", m, 516, 2, 65535, whole, impl.Seen{Page: 516, Need: 2, Kind: impl.KPerm})
	// the bits from 8 on say nothing
	checkFill(t, "choice 65280", m, 516, 65280, m)
	checkAccess(t, "choice 65280", m, 516, 1, 65280, m, impl.Seen{Page: 516, Need: 1, Kind: impl.KOk, Out: 77})
}

func TestNeedsAndPermissions(t *testing.T) {
	for perm := 1; perm <= 7; perm++ {
		walked := impl.Machine{Mem: smallTree()}
		put(walked.Mem, 5, 4, wordOf(1, perm, 77))
		cached := impl.Machine{Mem: memOf(1), Tlb: []impl.Tlb{{Page: 516, Size: 1, Out: 77, Perm: perm}}}
		for bit, need := range []int{1, 2, 4} {
			kind, out := impl.KPerm, 0
			if perm>>bit%2 == 1 {
				kind, out = impl.KOk, 77
			}
			sees(t, "walk", walked, 516, need, 0, kind, out)
			sees(t, "TLB", cached, 516, need, 128, kind, out)
		}
	}
}

func TestDrop(t *testing.T) {
	m := busyMachine()
	for i := range m.Tlb {
		want := with(m, func(m *impl.Machine) { m.Tlb = slices.Delete(m.Tlb, i, i+1) })
		checkDrop(t, "Tlb", m, 0, i, want)
	}
	for i := range m.Wc {
		want := with(m, func(m *impl.Machine) { m.Wc = slices.Delete(m.Wc, i, i+1) })
		checkDrop(t, "Wc", m, 1, i, want)
	}
	for _, i := range []int{math.MinInt, -1, 3, 4, math.MaxInt} {
		checkDrop(t, "no such entry of Tlb", m, 0, i, m)
		checkDrop(t, "no such entry of Wc", m, 1, i, m)
	}
	checkDrop(t, "entry 2 of Wc", m, 1, 2, m)
	for _, which := range []int{math.MinInt, -1, 2, 3, math.MaxInt} {
		checkDrop(t, "no such cache", m, which, 0, m)
	}
	bare := impl.Machine{Mem: memOf(1)}
	checkDrop(t, "empty Tlb", bare, 0, 0, bare)
	checkDrop(t, "empty Wc", bare, 1, 0, bare)
}
