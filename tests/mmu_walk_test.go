package tests

import (
	"math"
	"math/rand"
	"slices"
	"testing"

	"loop.example/s0047/impl"
)

var oddPages = []int{math.MinInt, -4096, -1, 4096, 4097, 65536, math.MaxInt}

func TestMachineConstants(t *testing.T) {
	got := []int{impl.MaxTlb, impl.MaxWc, impl.MaxPend, impl.MaxChoice, impl.KFault, impl.KOk, impl.KPerm, impl.KBad, impl.KConflict}
	want := []int{256, 256, 10000, 65535, 0, 1, 2, 3, 4}
	if !slices.Equal(got, want) {
		t.Errorf("constants are %v, want %v", got, want)
	}
}

func checkWalk(t *testing.T, m impl.Mem, page int, want impl.Hit) {
	t.Helper()
	before := slices.Clone(m.Words)
	if got := impl.Walk(m, page); got != want {
		t.Fatalf("Walk of page %d is %v, want %v", page, got, want)
	}
	if !slices.Equal(m.Words, before) {
		t.Fatalf("Walk of page %d changed the memory", page)
	}
}

func okHit(out int, perm int, size int) impl.Hit {
	return impl.Hit{Kind: impl.KOk, Out: out, Perm: perm, Size: size}
}

func TestWalkSmallTree(t *testing.T) {
	m := smallTree()
	checkWalk(t, m, 516, okHit(77, 5, 1))
	checkWalk(t, m, 767, okHit(65535, 1, 1))
	checkWalk(t, m, 624, okHit(48, 3, 16))
	checkWalk(t, m, 631, okHit(55, 3, 16))
	checkWalk(t, m, 639, okHit(63, 3, 16))
	checkWalk(t, m, 3840, okHit(0, 4, 16))
	checkWalk(t, m, 3855, okHit(15, 4, 16))
	for _, page := range []int{0, 511, 515, 517, 623, 640, 766, 768, 3839, 3856, 4095} {
		checkWalk(t, m, page, impl.Hit{})
	}
}

func TestWalkOutOfRange(t *testing.T) {
	m := memOf(512)
	for i := range m.Words {
		m.Words[i] = ^uint64(0)
	}
	checkWalk(t, m, 0, impl.Hit{Kind: impl.KBad})
	checkWalk(t, m, 4095, impl.Hit{Kind: impl.KBad})
	for _, page := range oddPages {
		checkWalk(t, m, page, impl.Hit{})
	}
	checkWalk(t, impl.Mem{}, 0, impl.Hit{})
	for _, n := range []int{0, 1, 15, 17, 31, 8191} {
		checkWalk(t, impl.Mem{Words: m.Words[:n]}, 0, impl.Hit{})
	}
	for _, n := range []int{8193, 8208, 16384} {
		longer := slices.Repeat([]uint64{^uint64(0)}, n)
		checkWalk(t, impl.Mem{Words: longer}, 0, impl.Hit{})
	}
}

func TestWalkBadEnds(t *testing.T) {
	page, block := wordOf(1, 1, 32), wordOf(0, 1, 32)
	rows := []struct {
		frame int
		words []uint64
	}{
		{0, []uint64{1, page, block, tableWord(6), tableWord(65535), tableWord(4) | 1<<28}},
		{3, []uint64{1, page, wordOf(0, 1, 33), tableWord(6), tableWord(512), block | 1<<11}},
		{5, []uint64{1, tableWord(4), block, tableWord(6), page | 1<<63}},
	}
	for _, row := range rows {
		for _, w := range row.words {
			m := smallTree()
			first := map[int]int{0: 256, 3: 528, 5: 513}[row.frame]
			put(m, row.frame, 1, w)
			checkWalk(t, m, first, impl.Hit{Kind: impl.KBad})
			put(m, row.frame, 1, w&^1)
			checkWalk(t, m, first, impl.Hit{})
		}
	}
}

// A circle of tables ends at level 3, where no word is a table.
func TestWalkCircle(t *testing.T) {
	m := memOf(1)
	put(m, 0, 5, tableWord(0))
	checkWalk(t, m, 0x555, impl.Hit{Kind: impl.KBad})
	checkWalk(t, m, 0x554, impl.Hit{})
	put(m, 0, 4, wordOf(0, 2, 32))
	checkWalk(t, m, 0x541, okHit(33, 2, 16))
	put(m, 0, 4, wordOf(1, 2, 33))
	checkWalk(t, m, 0x554, okHit(33, 2, 1))
	checkWalk(t, m, 0x540, impl.Hit{Kind: impl.KBad})
}

// Words behind the end of the list are no frames, even where memory is there.
func TestWalkSpareCapacity(t *testing.T) {
	whole := smallTree()
	part := impl.Mem{Words: whole.Words[:5*16]}
	checkWalk(t, part, 516, impl.Hit{Kind: impl.KBad})
	checkWalk(t, part, 767, okHit(65535, 1, 1))
}

func TestWalkAgainstModel(t *testing.T) {
	r := rand.New(rand.NewSource(5))
	for i := range 150 {
		mem := anyMem(r, 1+r.Intn(1+i%60), []int{0, 1, 5, 40}[i%4])
		m := impl.Machine{Mem: mem}
		for page := range 4096 {
			if got, want := impl.Walk(mem, page), modelWalk(&m, page, 0); got != want {
				t.Fatalf("Walk of page %d is %v, want %v", page, got, want)
			}
		}
	}
}

func allWalks(m impl.Mem) []impl.Hit {
	hits := make([]impl.Hit, 4096)
	for page := range hits {
		hits[page] = impl.Walk(m, page)
	}
	return hits
}

func somePageBad(hits []impl.Hit) bool {
	return slices.ContainsFunc(hits, func(h impl.Hit) bool { return h.Kind == impl.KBad })
}

// readBy gives the pages whose Walk must read a word, if places are all the
// tables that Walk can come to.
func readBy(places []placeRow, addr int) []bool {
	pages := make([]bool, 4096)
	for _, p := range places {
		if p.Frame == addr/16 {
			span := []int{0, 256, 16, 1}[p.Level]
			first := p.Page + addr%16*span
			for page := first; page < first+span; page++ {
				pages[page] = true
			}
		}
	}
	return pages
}

// A word that is bad at every level shows which pages it is read for: those
// that walk through a place with its frame, and no other.
func checkWordsRead(t *testing.T, m impl.Mem, places []placeRow, before []impl.Hit) {
	t.Helper()
	for addr, old := range m.Words {
		m.Words[addr] = ^uint64(0)
		reads := readBy(places, addr)
		for page := range 4096 {
			want := before[page]
			if reads[page] {
				want = impl.Hit{Kind: impl.KBad}
			}
			if got := impl.Walk(m, page); got != want {
				t.Fatalf("with a bad word %d the Walk of page %d is %v, want %v; places %v", addr, page, got, want, places)
			}
		}
		m.Words[addr] = old
	}
}

// checkTree holds the second answer of Places against every Walk.
func checkTree(t *testing.T, m impl.Mem, count map[bool]int) ([]placeRow, []impl.Hit) {
	t.Helper()
	places, tree := impl.Places(m)
	hits := allWalks(m)
	if tree != (noFrameTwice(places) && !somePageBad(hits)) {
		t.Fatalf("tree is %v; places %v, a bad page: %v", tree, places, somePageBad(hits))
	}
	count[tree]++
	return places, hits
}

// Promise 2 with Walk itself.
func TestPlacesAreWhatWalkComesTo(t *testing.T) {
	r := rand.New(rand.NewSource(6))
	count := map[bool]int{}
	mems := []impl.Mem{smallTree(), memOf(1)}
	for i := range 40 {
		mems = append(mems, anyMem(r, 1+i%6, []int{0, 1, 5, 40}[i/6%4]))
	}
	for _, m := range mems {
		places, hits := checkTree(t, m, count)
		checkWordsRead(t, m, places, hits)
	}
	if count[true] < 5 || count[false] < 5 {
		t.Errorf("too few trees or too few others: %v", count)
	}
}

// The same of the second answer alone, for greater memories.
func TestTreeIsNoBadWalk(t *testing.T) {
	r := rand.New(rand.NewSource(7))
	count := map[bool]int{}
	for i := range 200 {
		checkTree(t, anyMem(r, 1+r.Intn(60), []int{0, 0, 1, 5}[i%4]), count)
	}
	if count[true] < 50 || count[false] < 50 {
		t.Errorf("too few trees or too few others: %v", count)
	}
}

// Promise 4: all choices below 128, all needs, pages of every outcome.
func TestAccessOfBareMachine(t *testing.T) {
	r := rand.New(rand.NewSource(4))
	kinds := map[int]int{}
	for i := range 60 {
		m := impl.Machine{Mem: anyMem(r, 1+r.Intn(30), []int{0, 5, 40}[i%3])}
		for _, page := range pagesOf(r, m.Mem) {
			hit := impl.Walk(m.Mem, page)
			kinds[hit.Kind]++
			for choice := range 128 {
				for _, need := range []int{1, 2, 4} {
					_, seen := impl.Access(m, page, need, choice)
					if want := modelSeen(page, need, hit); seen != want {
						t.Fatalf("access to %d for %d with choice %d sees %v, want %v", page, need, choice, seen, want)
					}
				}
			}
		}
	}
	if kinds[impl.KOk] < 50 || kinds[impl.KFault] < 20 || kinds[impl.KBad] < 20 {
		t.Errorf("too few of some kind: %v", kinds)
	}
}
