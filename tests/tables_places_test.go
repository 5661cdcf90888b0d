package tests

import (
	"math/rand"
	"slices"
	"testing"

	"loop.example/s0047/impl"
)

type placeRow = impl.Place

var topPlace = placeRow{Frame: 0, Level: 1, Page: 0}

func tableWord(frame int) uint64 {
	return wordOf(1, 0, frame)
}

func memOf(frames int) impl.Mem {
	return impl.Mem{Words: make([]uint64, frames*16)}
}

func put(m impl.Mem, frame int, index int, w uint64) {
	m.Words[frame*16+index] = w
}

// smallTree has 6 frames: 0 leads to 3 (entry 2) and 1 (entry 15); 3 leads to 5
// (entry 0) and 2 (entry 15); frame 4 is not reached.
func smallTree() impl.Mem {
	m := memOf(6)
	put(m, 0, 2, tableWord(3))
	put(m, 0, 15, tableWord(1))
	put(m, 3, 0, tableWord(5))
	put(m, 3, 7, wordOf(0, 3, 48))
	put(m, 3, 15, tableWord(2))
	put(m, 5, 4, wordOf(1, 5, 77))
	put(m, 2, 15, wordOf(1, 1, 65535))
	put(m, 1, 0, wordOf(0, 4, 0))
	return m
}

func smallPlaces() []placeRow {
	return []placeRow{topPlace, {Frame: 3, Level: 2, Page: 512}, {Frame: 5, Level: 3, Page: 512}, {Frame: 2, Level: 3, Page: 752}, {Frame: 1, Level: 2, Page: 3840}}
}

// checkPlaces also holds every call against the argument's words, before and
// after, and against what is done to the answer.
func checkPlaces(t *testing.T, name string, m impl.Mem, tree bool, want []placeRow) {
	t.Helper()
	before := slices.Clone(m.Words)
	got, ok := impl.Places(m)
	if ok != tree || !slices.Equal(got, want) {
		t.Fatalf("%s: %v %v, want %v %v", name, got, ok, want, tree)
	}
	for i := range got {
		got[i] = placeRow{Frame: -1, Level: -1, Page: -1}
	}
	again, ok := impl.Places(m)
	if ok != tree || !slices.Equal(again, want) {
		t.Fatalf("%s: asked again: %v %v, want %v %v", name, again, ok, want, tree)
	}
	if !slices.Equal(m.Words, before) {
		t.Fatalf("%s: the memory was changed", name)
	}
	for i := range m.Words {
		m.Words[i] = ^uint64(0)
	}
	if !slices.Equal(again, want) {
		t.Fatalf("%s: the answer changed with the memory", name)
	}
	copy(m.Words, before)
}

func TestPlacesOrder(t *testing.T) {
	checkPlaces(t, "small tree", smallTree(), true, smallPlaces())
	checkPlaces(t, "top table alone", memOf(1), true, []placeRow{topPlace})
}

// The greatest tree there is, its frames given out backwards.
func TestPlacesGreatestTree(t *testing.T) {
	m := memOf(512)
	want := []placeRow{topPlace}
	next := 511
	for i := 0; i < 16; i++ {
		mid := next
		next--
		put(m, 0, i, tableWord(mid))
		want = append(want, placeRow{Frame: mid, Level: 2, Page: 256 * i})
		for j := 0; j < 16; j++ {
			put(m, mid, j, tableWord(next))
			want = append(want, placeRow{Frame: next, Level: 3, Page: 256*i + 16*j})
			next--
		}
	}
	if len(want) != 273 {
		t.Fatalf("%d places", len(want))
	}
	checkPlaces(t, "greatest tree", m, true, want)
}

func TestPlacesNotValid(t *testing.T) {
	checkPlaces(t, "nil", impl.Mem{}, false, nil)
	for _, n := range []int{0, 1, 15, 17, 31, 47, 512*16 - 1, 512*16 + 1, 513 * 16, 1024 * 16} {
		checkPlaces(t, "words", impl.Mem{Words: make([]uint64, n)}, false, nil)
	}
	m := smallTree()
	checkPlaces(t, "cut tree", impl.Mem{Words: m.Words[:95]}, false, nil)
	for _, frames := range []int{1, 2, 3, 511, 512} {
		checkPlaces(t, "zeros", memOf(frames), true, []placeRow{topPlace})
	}
}

func TestPlacesReachedTwice(t *testing.T) {
	m := memOf(4)
	put(m, 0, 0, tableWord(1))
	put(m, 0, 9, tableWord(1))
	put(m, 1, 3, tableWord(2))
	checkPlaces(t, "level 2 twice", m, false, []placeRow{topPlace, {Frame: 1, Level: 2, Page: 0}, {Frame: 2, Level: 3, Page: 48}, {Frame: 1, Level: 2, Page: 2304}, {Frame: 2, Level: 3, Page: 2352}})

	m = memOf(4)
	put(m, 0, 1, tableWord(2))
	put(m, 2, 4, tableWord(3))
	put(m, 2, 5, tableWord(3))
	checkPlaces(t, "level 3 twice", m, false, []placeRow{topPlace, {Frame: 2, Level: 2, Page: 256}, {Frame: 3, Level: 3, Page: 320}, {Frame: 3, Level: 3, Page: 336}})

	m = memOf(4)
	put(m, 0, 1, tableWord(2))
	put(m, 0, 2, tableWord(1))
	put(m, 2, 4, tableWord(3))
	put(m, 1, 0, tableWord(3))
	checkPlaces(t, "level 3 from two tables", m, false, []placeRow{topPlace, {Frame: 2, Level: 2, Page: 256}, {Frame: 3, Level: 3, Page: 320}, {Frame: 1, Level: 2, Page: 512}, {Frame: 3, Level: 3, Page: 512}})

	m = memOf(3)
	put(m, 0, 1, tableWord(2))
	put(m, 0, 6, tableWord(1))
	put(m, 2, 4, tableWord(1))
	checkPlaces(t, "at two levels", m, false, []placeRow{topPlace, {Frame: 2, Level: 2, Page: 256}, {Frame: 1, Level: 3, Page: 320}, {Frame: 1, Level: 2, Page: 1536}})
}

func TestPlacesCircles(t *testing.T) {
	m := memOf(2)
	put(m, 0, 5, tableWord(0))
	checkPlaces(t, "top to itself", m, false, []placeRow{topPlace, {Frame: 0, Level: 2, Page: 1280}, {Frame: 0, Level: 3, Page: 1360}})

	m = memOf(2)
	put(m, 0, 5, tableWord(1))
	put(m, 1, 6, tableWord(1))
	checkPlaces(t, "level 2 to itself", m, false, []placeRow{topPlace, {Frame: 1, Level: 2, Page: 1280}, {Frame: 1, Level: 3, Page: 1376}})

	m = memOf(2)
	put(m, 0, 5, tableWord(1))
	put(m, 1, 6, tableWord(0))
	checkPlaces(t, "level 2 to the top", m, false, []placeRow{topPlace, {Frame: 1, Level: 2, Page: 1280}, {Frame: 0, Level: 3, Page: 1376}})

	m = memOf(3)
	put(m, 0, 0, tableWord(1))
	put(m, 1, 0, tableWord(2))
	put(m, 2, 0, tableWord(1))
	checkPlaces(t, "level 3 back up", m, false, []placeRow{topPlace, {Frame: 1, Level: 2, Page: 0}, {Frame: 2, Level: 3, Page: 0}})
}

func TestPlacesAllCircles(t *testing.T) {
	m := memOf(1)
	want := []placeRow{topPlace}
	for i := 0; i < 16; i++ {
		put(m, 0, i, tableWord(0))
		want = append(want, placeRow{Frame: 0, Level: 2, Page: 256 * i})
		for j := 0; j < 16; j++ {
			want = append(want, placeRow{Frame: 0, Level: 3, Page: 256*i + 16*j})
		}
	}
	checkPlaces(t, "all to the top", m, false, want)
}

func TestPlacesFrameNotThere(t *testing.T) {
	for _, frame := range []int{6, 7, 511, 512, 65535} {
		m := smallTree()
		put(m, 0, 4, tableWord(frame))
		checkPlaces(t, "level 1", m, false, smallPlaces())
		m = smallTree()
		put(m, 3, 4, tableWord(frame))
		checkPlaces(t, "level 2", m, false, smallPlaces())
	}
	m := memOf(512)
	put(m, 0, 15, tableWord(511))
	checkPlaces(t, "last frame", m, true, []placeRow{topPlace, {Frame: 511, Level: 2, Page: 3840}})
	put(m, 511, 15, tableWord(512))
	checkPlaces(t, "behind the last frame", m, false, []placeRow{topPlace, {Frame: 511, Level: 2, Page: 3840}})
}

// Words behind the end of the list are no frames, even where memory is there.
func TestPlacesSpareCapacity(t *testing.T) {
	whole := smallTree()
	part := impl.Mem{Words: whole.Words[:4*16]}
	checkPlaces(t, "four of six frames", part, false, []placeRow{topPlace, {Frame: 3, Level: 2, Page: 512}, {Frame: 2, Level: 3, Page: 752}, {Frame: 1, Level: 2, Page: 3840}})
	if !slices.Equal(whole.Words, smallTree().Words) {
		t.Error("words behind the end were changed")
	}
}

func TestPlacesBadWords(t *testing.T) {
	page := wordOf(1, 1, 32)
	block := wordOf(0, 1, 32)
	stray := tableWord(4) | 1<<5
	high := wordOf(1, 1, 32) | 1<<63
	bad := []struct {
		frame int
		words []uint64
	}{
		{0, []uint64{1, page, block, stray, high, ^uint64(0)}},
		{3, []uint64{1, page, wordOf(0, 1, 33), wordOf(0, 0, 32), stray, high}},
		{1, []uint64{1, page, wordOf(0, 1, 33)}},
		{5, []uint64{1, tableWord(4), block, stray, high}},
		{2, []uint64{1, tableWord(4), block, stray, high}},
	}
	for _, b := range bad {
		for _, w := range b.words {
			for _, index := range []int{1, 14} {
				m := smallTree()
				put(m, b.frame, index, w)
				checkPlaces(t, "bad word", m, false, smallPlaces())
				put(m, b.frame, index, w&^1)
				checkPlaces(t, "the same with bit 0 clear", m, true, smallPlaces())
			}
		}
	}
}

func TestPlacesBadWordsOutOfReach(t *testing.T) {
	m := smallTree()
	for i := 0; i < 16; i++ {
		put(m, 4, i, ^uint64(0)-uint64(2*i))
	}
	checkPlaces(t, "frame 4 is no place", m, true, smallPlaces())
	put(m, 3, 1, tableWord(4))
	_, tree := impl.Places(m)
	if tree {
		t.Error("frame 4 is a place now, and its words are bad")
	}
}

// walkPlaces goes down for every page by itself and notes the tables that it
// comes to in the order in which it first does: an oracle that shares no way of
// searching with the program. The second answer is whether some page ends badly.
func walkPlaces(m impl.Mem) ([]placeRow, bool) {
	var found []placeRow
	bad := false
	noted := map[placeRow]bool{}
	note := func(p placeRow) {
		if !noted[p] {
			noted[p] = true
			found = append(found, p)
		}
	}
	for page := 0; page < 4096; page++ {
		frame := 0
		for level, span := 1, 256; level <= 3; level, span = level+1, span/16 {
			note(placeRow{Frame: frame, Level: level, Page: page - page%(span*16)})
			w := m.Words[frame*16+page/span%16]
			if w%2 == 0 {
				break
			}
			d := impl.Desc{Kind: impl.DBad}
			if w&^0xffff01f == 0 {
				d = wantDesc(level, int(w>>1&1), int(w>>2&7), int(w>>12))
			}
			if d.Kind == impl.DBad || d.Kind == impl.DTable && d.Out >= len(m.Words)/16 {
				bad = true
			}
			if d.Kind != impl.DTable || d.Out >= len(m.Words)/16 {
				break
			}
			frame = d.Out
		}
	}
	return found, bad
}

func noFrameTwice(places []placeRow) bool {
	frames := map[int]int{}
	for _, p := range places {
		frames[p.Frame]++
	}
	return len(frames) == len(places)
}

// anyWord gives a word that often, but not always, fits the level.
func anyWord(r *rand.Rand, level int, frames int, wild int) uint64 {
	if r.Intn(100) < wild {
		words := []uint64{r.Uint64(), r.Uint64() & 0xffff01f, tableWord(frames), tableWord(r.Intn(frames)), wordOf(1, 3, 7), wordOf(0, 3, 16), 1}
		return words[r.Intn(len(words))]
	}
	if r.Intn(3) > 0 {
		return r.Uint64() &^ 1
	}
	if level == 3 {
		return wordOf(1, 1+r.Intn(7), r.Intn(65536))
	}
	if level == 2 {
		return wordOf(0, 1+r.Intn(7), 16*r.Intn(4096))
	}
	return 0
}

// anyMem makes a tree with its frames mixed up, then spoils some of its words.
func anyMem(r *rand.Rand, frames int, wild int) impl.Mem {
	m := memOf(frames)
	level := make([]int, frames)
	level[0] = 1
	for _, f := range r.Perm(frames) {
		if f == 0 {
			continue
		}
		for range 3 {
			above := r.Intn(frames)
			at := above*16 + r.Intn(16)
			if (level[above] == 1 || level[above] == 2) && m.Words[at] == 0 {
				m.Words[at] = tableWord(f)
				level[f] = level[above] + 1
				break
			}
		}
	}
	for i := range m.Words {
		if m.Words[i] == 0 || r.Intn(100) < wild {
			m.Words[i] = anyWord(r, max(1, level[i/16]), frames, wild)
		}
	}
	return m
}

// Promise 2 for a few hundred memories, trees and others.
func TestPlacesAgainstWalks(t *testing.T) {
	r := rand.New(rand.NewSource(2))
	trees, others, deep := 0, 0, 0
	for i := range 600 {
		wild := []int{0, 0, 1, 5, 40}[i%5]
		m := anyMem(r, 1+r.Intn(1+i%40), wild)
		want, bad := walkPlaces(m)
		tree := !bad && noFrameTwice(want)
		checkPlaces(t, "mixed memory", m, tree, want)
		if tree {
			trees++
		} else {
			others++
		}
		if len(want) > 5 {
			deep++
		}
	}
	if trees < 50 || others < 50 || deep < 50 {
		t.Fatalf("%d trees, %d others, %d deep: too few of some", trees, others, deep)
	}
}
