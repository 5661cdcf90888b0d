package tests

import (
	"math/rand"
	"slices"
	"testing"

	"loop.example/s0047/impl"
)

// The machine of the document's chapter 2 once more, as plainly as can be: it
// searches where the program keeps, and writes every rule out where it is used.

func modelDesc(level int, w uint64) impl.Desc {
	if w%2 == 0 {
		return impl.Desc{}
	}
	if w&^0xffff01f != 0 {
		return impl.Desc{Kind: impl.DBad}
	}
	return wantDesc(level, int(w>>1&1), int(w>>2&7), int(w>>12))
}

func modelIndex(level int, page int) int {
	return []int{0, page / 256, page / 16 % 16, page % 16}[level]
}

func modelRead(m *impl.Machine, addr int, late bool) uint64 {
	for i := len(m.Pend) - 1; late && i >= 0; i-- {
		if m.Pend[i].Addr == addr {
			return m.Pend[i].Word
		}
	}
	return m.Mem.Words[addr]
}

func modelAddWc(m *impl.Machine, e impl.Wc) {
	if len(m.Wc) < 256 && !slices.Contains(m.Wc, e) {
		m.Wc = append(m.Wc, e)
	}
}

func modelAddTlb(m *impl.Machine, e impl.Tlb) {
	if len(m.Tlb) < 256 && !slices.Contains(m.Tlb, e) {
		m.Tlb = append(m.Tlb, e)
	}
}

func modelBegin(m *impl.Machine, page int, bits []bool) (int, int, bool) {
	if bits[0] {
		for _, e := range m.Wc {
			if e.Level == 3 && page/16 == e.Page/16 {
				return 3, e.Table, e.Doomed
			}
		}
		for _, e := range m.Wc {
			if e.Level == 2 && page/256 == e.Page/256 {
				return 2, e.Table, e.Doomed
			}
		}
	}
	return 1, 0, false
}

func bitsOf(choice int) []bool {
	bits := make([]bool, 16)
	for b := range bits {
		bits[b] = choice%2 == 1
		choice /= 2
	}
	return bits
}

func modelWalk(m *impl.Machine, page int, choice int) impl.Hit {
	bits := bitsOf(choice)
	level, frame, doomed := modelBegin(m, page, bits)
	for {
		d := modelDesc(level, modelRead(m, frame*16+modelIndex(level, page), bits[level]))
		switch {
		case d.Kind == impl.DInvalid:
			return impl.Hit{}
		case d.Kind == impl.DBad, d.Kind == impl.DTable && d.Out >= len(m.Mem.Words)/16:
			return impl.Hit{Kind: impl.KBad}
		case d.Kind == impl.DTable && level == 1:
			if bits[4] {
				modelAddWc(m, impl.Wc{Level: 2, Page: page / 256 * 256, Table: d.Out, Doomed: doomed})
			}
		case d.Kind == impl.DTable && level == 2:
			if bits[5] {
				modelAddWc(m, impl.Wc{Level: 3, Page: page / 16 * 16, Table: d.Out, Doomed: doomed})
			}
		case d.Kind == impl.DBlock:
			if bits[6] {
				modelAddTlb(m, impl.Tlb{Page: page / 16 * 16, Size: 16, Out: d.Out, Perm: d.Perm, Doomed: doomed})
			}
			return impl.Hit{Kind: impl.KOk, Out: d.Out + page%16, Perm: d.Perm, Size: 16}
		case d.Kind == impl.DPage:
			if bits[6] {
				modelAddTlb(m, impl.Tlb{Page: page, Size: 1, Out: d.Out, Perm: d.Perm, Doomed: doomed})
			}
			return impl.Hit{Kind: impl.KOk, Out: d.Out, Perm: d.Perm, Size: 1}
		}
		level, frame = level+1, d.Out
	}
}

func covering(m *impl.Machine, page int) []impl.Tlb {
	var found []impl.Tlb
	for _, e := range m.Tlb {
		if page >= e.Page && page < e.Page+e.Size {
			found = append(found, e)
		}
	}
	return found
}

func someDiffer(entries []impl.Tlb) bool {
	for _, a := range entries {
		for _, b := range entries {
			if a.Page != b.Page || a.Size != b.Size || a.Out != b.Out || a.Perm != b.Perm {
				return true
			}
		}
	}
	return false
}

// modelSeen is what an access sees of a translation.
func modelSeen(page int, need int, h impl.Hit) impl.Seen {
	s := impl.Seen{Page: page, Need: need, Kind: h.Kind}
	if h.Kind != impl.KOk {
		return s
	}
	held := map[int][]int{1: {1, 3, 5, 7}, 2: {2, 3, 6, 7}, 4: {4, 5, 6, 7}}
	if slices.Contains(held[need], h.Perm) {
		s.Out = h.Out
	} else {
		s.Kind = impl.KPerm
	}
	return s
}

func modelAccess(m *impl.Machine, page int, need int, choice int) impl.Seen {
	found := covering(m, page)
	if !bitsOf(choice)[7] || len(found) == 0 {
		return modelSeen(page, need, modelWalk(m, page, choice))
	}
	if someDiffer(found) {
		return modelSeen(page, need, impl.Hit{Kind: impl.KConflict})
	}
	e := found[0]
	return modelSeen(page, need, impl.Hit{Kind: impl.KOk, Out: e.Out + page - e.Page, Perm: e.Perm, Size: e.Size})
}

func modelDrop(m *impl.Machine, which int, i int) {
	if which == 0 && i >= 0 && i < len(m.Tlb) {
		m.Tlb = append(slices.Clone(m.Tlb[:i]), m.Tlb[i+1:]...)
	}
	if which == 1 && i >= 0 && i < len(m.Wc) {
		m.Wc = append(slices.Clone(m.Wc[:i]), m.Wc[i+1:]...)
	}
}

func modelConflict(m *impl.Machine) bool {
	for page := range 4096 {
		if someDiffer(covering(m, page)) {
			return true
		}
	}
	return false
}

func modelValidTlb(e impl.Tlb) bool {
	return (e.Size == 1 || e.Size == 16) && e.Page >= 0 && e.Page <= 4095 && e.Page%e.Size == 0 &&
		e.Perm >= 1 && e.Perm <= 7 && e.Out >= 0 && e.Out <= 65535 && e.Out%e.Size == 0
}

func modelValidWc(e impl.Wc, frames int) bool {
	return (e.Level == 2 && e.Page%256 == 0 || e.Level == 3 && e.Page%16 == 0) &&
		e.Page >= 0 && e.Page <= 4095 && e.Table >= 0 && e.Table < frames
}

func modelValid(m *impl.Machine) bool {
	n := len(m.Mem.Words)
	ok := n%16 == 0 && n >= 16 && n <= 8192 && len(m.Pend) <= 10000 && len(m.Tlb) <= 256 && len(m.Wc) <= 256
	for _, w := range m.Pend {
		ok = ok && w.Addr >= 0 && w.Addr < n
	}
	for _, e := range m.Tlb {
		ok = ok && modelValidTlb(e)
	}
	for _, e := range m.Wc {
		ok = ok && modelValidWc(e, n/16)
	}
	return ok
}

func cloneMachine(m impl.Machine) impl.Machine {
	return impl.Machine{Mem: impl.Mem{Words: slices.Clone(m.Mem.Words)}, Pend: slices.Clone(m.Pend), Tlb: slices.Clone(m.Tlb), Wc: slices.Clone(m.Wc)}
}

func sameMachine(a impl.Machine, b impl.Machine) bool {
	return slices.Equal(a.Mem.Words, b.Mem.Words) && slices.Equal(a.Pend, b.Pend) && slices.Equal(a.Tlb, b.Tlb) && slices.Equal(a.Wc, b.Wc)
}

// anyMachine has few pages of interest, so that entries meet and overlap.
func anyMachine(r *rand.Rand, mem impl.Mem, pages []int) impl.Machine {
	m := impl.Machine{Mem: mem}
	frames := len(mem.Words) / 16
	for range r.Intn(40) {
		w := impl.Write{Addr: r.Intn(len(mem.Words)), Word: anyWord(r, 1+r.Intn(3), frames, 60)}
		if r.Intn(2) == 0 {
			page := pages[r.Intn(len(pages))]
			level := 1 + r.Intn(3)
			w.Addr = r.Intn(frames)*16 + modelIndex(level, page)
		}
		m.Pend = append(m.Pend, w)
	}
	for range r.Intn(6) {
		page, size := pages[r.Intn(len(pages))], 1+15*r.Intn(2)
		m.Tlb = append(m.Tlb, impl.Tlb{Page: page / size * size, Size: size, Out: 16 * r.Intn(3), Perm: 1 + r.Intn(7), Doomed: r.Intn(3) == 0})
	}
	for range r.Intn(6) {
		page, level := pages[r.Intn(len(pages))], 2+r.Intn(2)
		first := page / 256 * 256
		if level == 3 {
			first = page / 16 * 16
		}
		m.Wc = append(m.Wc, impl.Wc{Level: level, Page: first, Table: r.Intn(frames), Doomed: r.Intn(3) == 0})
	}
	return m
}

// pagesOf picks pages that memory maps, where it does, and some neighbours.
func pagesOf(r *rand.Rand, mem impl.Mem) []int {
	pages := []int{0, 4095, r.Intn(4096)}
	m := impl.Machine{Mem: mem}
	for range 2000 {
		page := r.Intn(4096)
		if len(pages) < 8 && modelWalk(&m, page, 0).Kind == impl.KOk {
			pages = append(pages, page, page^1)
		}
	}
	return pages
}

type tally struct {
	seen       [5]int
	tlb, wc    int
	doomed     int
	drops      int
	conflicts  int
	noConflict int
}

func (y *tally) note(before impl.Machine, after impl.Machine) {
	y.tlb += max(0, len(after.Tlb)-len(before.Tlb))
	y.wc += max(0, len(after.Wc)-len(before.Wc))
	for i := len(before.Tlb); i < len(after.Tlb); i++ {
		if after.Tlb[i].Doomed {
			y.doomed++
		}
	}
}

// stepBoth lets one thing happen to the program's machine and to the model.
func stepBoth(t *testing.T, r *rand.Rand, m impl.Machine, pages []int, y *tally) impl.Machine {
	t.Helper()
	want := cloneMachine(m)
	page, choice := pages[r.Intn(len(pages))], r.Intn(65536)
	var got impl.Machine
	switch r.Intn(4) {
	case 0:
		modelWalk(&want, page, choice)
		got = impl.Fill(m, page, choice)
	case 1:
		which, i := r.Intn(3), r.Intn(8)-1
		modelDrop(&want, which, i)
		got = impl.Drop(m, which, i)
		y.drops += len(m.Tlb) + len(m.Wc) - len(got.Tlb) - len(got.Wc)
	default:
		var seen impl.Seen
		need := 1 << r.Intn(3)
		wantSeen := modelAccess(&want, page, need, choice)
		got, seen = impl.Access(m, page, need, choice)
		if seen != wantSeen {
			t.Fatalf("access to %d for %d with choice %d sees %v, want %v\n%v", page, need, choice, seen, wantSeen, m)
		}
		y.seen[seen.Kind]++
	}
	if !sameMachine(got, want) {
		t.Fatalf("page %d, choice %d: machine\n%v, want\n%v, from\n%v", page, choice, got, want, m)
	}
	if !modelValid(&got) {
		t.Fatalf("page %d, choice %d: not a valid machine: %v", page, choice, got)
	}
	y.note(m, got)
	return got
}

// Promise 3, as far as chapter 2 goes, over some thousand steps.
func TestMachineAgainstModel(t *testing.T) {
	r := rand.New(rand.NewSource(3))
	var y tally
	for i := range 3000 {
		mem := anyMem(r, 1+r.Intn(1+i%40), []int{0, 0, 1, 5, 40}[i%5])
		pages := pagesOf(r, mem)
		m := anyMachine(r, mem, pages)
		for range 25 {
			m = stepBoth(t, r, m, pages, &y)
		}
		conflict := modelConflict(&m)
		if got := impl.Conflict(m); got != conflict {
			t.Fatalf("Conflict is %v for %v", got, m.Tlb)
		}
		if conflict {
			y.conflicts++
		} else {
			y.noConflict++
		}
	}
	for kind, n := range y.seen {
		if n < 100 {
			t.Errorf("kind %d was seen %d times only", kind, n)
		}
	}
	if y.tlb < 500 || y.wc < 500 || y.doomed < 50 || y.drops < 500 || y.conflicts < 50 || y.noConflict < 50 {
		t.Errorf("too few of some: %+v", y)
	}
}
