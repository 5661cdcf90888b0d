package tests

import (
	"math"
	"math/rand"
	"testing"

	"loop.example/s0047/impl"
)

var oddLevels = []int{math.MinInt, -1, 0, 4, 5, 255, math.MaxInt}

// wordOf lays a word out by plain arithmetic, without the program's help.
func wordOf(split int, perm int, out int) uint64 {
	return 1 + 2*uint64(split) + 4*uint64(perm) + 4096*uint64(out)
}

// wantDesc says what a word without stray bits means at a level, by the
// document's list.
func wantDesc(level int, split int, perm int, out int) impl.Desc {
	switch {
	case (level == 1 || level == 2) && split == 1 && perm == 0:
		return impl.Desc{Kind: impl.DTable, Out: out}
	case level == 2 && split == 0 && perm != 0 && out%16 == 0:
		return impl.Desc{Kind: impl.DBlock, Out: out, Perm: perm}
	case level == 3 && split == 1 && perm != 0:
		return impl.Desc{Kind: impl.DPage, Out: out, Perm: perm}
	}
	return impl.Desc{Kind: impl.DBad}
}

func checkDecode(t *testing.T, level int, w uint64, want impl.Desc) {
	if got := impl.Decode(level, w); got != want {
		t.Fatalf("Decode(%d, %#x) is %v, want %v", level, w, got, want)
	}
}

func checkEncode(t *testing.T, level int, d impl.Desc, want uint64) {
	if got := impl.Encode(level, d); got != want {
		t.Fatalf("Encode(%d, %v) is %#x, want %#x", level, d, got, want)
	}
}

func hasWord(d impl.Desc) bool {
	return d.Kind == impl.DTable || d.Kind == impl.DBlock || d.Kind == impl.DPage
}

func TestTablesConstants(t *testing.T) {
	got := []int{impl.Fan, impl.Pages, impl.MaxOut, impl.MaxFrames, impl.DInvalid, impl.DTable, impl.DBlock, impl.DPage, impl.DBad}
	want := []int{16, 4096, 65536, 512, 0, 1, 2, 3, 4}
	for i := range want {
		if got[i] != want[i] {
			t.Errorf("constant %d is %d, want %d", i, got[i], want[i])
		}
	}
}

// Written-out words, so that a slip in wordOf can't hide one in the program.
func TestWordsWrittenOut(t *testing.T) {
	rows := []struct {
		level int
		w     uint64
		d     impl.Desc
	}{
		{1, 0x3, impl.Desc{Kind: impl.DTable}},
		{1, 0x1ff003, impl.Desc{Kind: impl.DTable, Out: 511}},
		{2, 0xffff003, impl.Desc{Kind: impl.DTable, Out: 65535}},
		{2, 0x5, impl.Desc{Kind: impl.DBlock, Perm: 1}},
		{2, 0x10009, impl.Desc{Kind: impl.DBlock, Out: 16, Perm: 2}},
		{2, 0xfff001d, impl.Desc{Kind: impl.DBlock, Out: 65520, Perm: 7}},
		{3, 0x7, impl.Desc{Kind: impl.DPage, Perm: 1}},
		{3, 0xb, impl.Desc{Kind: impl.DPage, Perm: 2}},
		{3, 0x13, impl.Desc{Kind: impl.DPage, Perm: 4}},
		{3, 0x6401f, impl.Desc{Kind: impl.DPage, Out: 100, Perm: 7}},
	}
	for _, r := range rows {
		checkDecode(t, r.level, r.w, r.d)
		checkEncode(t, r.level, r.d, r.w)
	}
}

// Every word whose bits 5 to 11 and 28 to 63 are 0, at every level.
func TestWordsDecodeAll(t *testing.T) {
	for level := 1; level <= 3; level++ {
		for out := 0; out < 65536; out++ {
			for perm := 0; perm < 8; perm++ {
				for split := 0; split < 2; split++ {
					w := wordOf(split, perm, out)
					want := wantDesc(level, split, perm, out)
					checkDecode(t, level, w, want)
					checkDecode(t, level, w-1, impl.Desc{Kind: impl.DInvalid})
					if hasWord(want) {
						checkEncode(t, level, want, w)
					}
				}
			}
		}
	}
}

// Every description near the valid ones: the word where the list has one, 0
// everywhere else.
func TestWordsEncodeAll(t *testing.T) {
	for level := 0; level <= 4; level++ {
		for kind := -1; kind <= 5; kind++ {
			for perm := -1; perm <= 8; perm++ {
				for out := -17; out <= 65536+17; out++ {
					d := impl.Desc{Kind: kind, Out: out, Perm: perm}
					checkEncode(t, level, d, wantWord(level, d))
				}
			}
		}
	}
}

func wantWord(level int, d impl.Desc) uint64 {
	if !hasWord(d) || d.Out < 0 || d.Out > 65535 || d.Perm < 0 || d.Perm > 7 {
		return 0
	}
	for split := 0; split < 2; split++ {
		if wantDesc(level, split, d.Perm, d.Out) == d {
			return wordOf(split, d.Perm, d.Out)
		}
	}
	return 0
}

func TestWordsStrayBits(t *testing.T) {
	good := []struct {
		level int
		w     uint64
	}{{1, 0x2003}, {2, 0x2003}, {2, 0x20005}, {3, 0x6401f}, {3, 0xffff007}}
	for _, g := range good {
		if !hasWord(impl.Decode(g.level, g.w)) {
			t.Fatalf("level %d: %#x means nothing", g.level, g.w)
		}
		for bit := 0; bit < 64; bit++ {
			if bit >= 5 && bit <= 11 || bit >= 28 {
				checkDecode(t, g.level, g.w|1<<bit, impl.Desc{Kind: impl.DBad})
			}
		}
	}
}

func TestWordsInvalid(t *testing.T) {
	for level := 1; level <= 3; level++ {
		for bit := 1; bit < 64; bit++ {
			checkDecode(t, level, 1<<bit, impl.Desc{Kind: impl.DInvalid})
			checkDecode(t, level, ^uint64(1<<bit|1), impl.Desc{Kind: impl.DInvalid})
		}
		checkDecode(t, level, 0, impl.Desc{Kind: impl.DInvalid})
		checkDecode(t, level, 0xfffffffffffffffe, impl.Desc{Kind: impl.DInvalid})
		checkDecode(t, level, 0xffffffffffffffff, impl.Desc{Kind: impl.DBad})
	}
}

func TestWordsOtherLevels(t *testing.T) {
	words := []uint64{0, 1, 0x3, 0x2003, 0x20005, 0x6401f, 0xfffffffffffffffe, 0xffffffffffffffff}
	for _, level := range oddLevels {
		for _, w := range words {
			checkDecode(t, level, w, impl.Desc{Kind: impl.DBad})
		}
		for kind := -1; kind <= 5; kind++ {
			for _, perm := range []int{0, 1, 7} {
				checkEncode(t, level, impl.Desc{Kind: kind, Out: 32, Perm: perm}, 0)
				checkEncode(t, level, impl.Desc{Kind: kind, Out: 0, Perm: perm}, 0)
			}
		}
	}
}

// Numbers whose low bits would fit their fields, were the rest cut off.
func TestWordsEncodeFarNumbers(t *testing.T) {
	far := []int{math.MinInt, math.MinInt + 32, -65536, -65504, -8, -7, 1 << 16, 1<<16 + 32, 1 << 20, 1<<52 + 32, 1 << 61, 1<<61 + 1, 1<<62 + 1, math.MaxInt}
	levels := []struct{ level, kind, perm int }{{1, impl.DTable, 0}, {2, impl.DTable, 0}, {2, impl.DBlock, 1}, {3, impl.DPage, 1}}
	for _, l := range levels {
		for _, n := range far {
			checkEncode(t, l.level, impl.Desc{Kind: l.kind, Out: n, Perm: l.perm}, 0)
			checkEncode(t, l.level, impl.Desc{Kind: l.kind, Out: 32, Perm: n}, 0)
			checkEncode(t, l.level, impl.Desc{Kind: n, Out: 32, Perm: l.perm}, 0)
		}
	}
}

// The second half of promise 1, for words of every look: a meaning only for the
// one word that Encode gives for it.
func TestWordsOneWordOnly(t *testing.T) {
	r := rand.New(rand.NewSource(1))
	meant := 0
	for range 2000000 {
		w := r.Uint64()
		if r.Intn(2) == 0 {
			w &= 0xffff01f
		}
		if r.Intn(4) == 0 {
			w |= 1 << r.Intn(64)
		}
		level := r.Intn(6) - 1
		d := impl.Decode(level, w)
		if !hasWord(d) {
			if d.Out != 0 || d.Perm != 0 {
				t.Fatalf("Decode(%d, %#x) is %v", level, w, d)
			}
			continue
		}
		meant++
		checkEncode(t, level, d, w)
	}
	if meant < 1000 {
		t.Fatalf("only %d of the words mean something", meant)
	}
}
