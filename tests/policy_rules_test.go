package tests

import (
	"slices"
	"strconv"
	"strings"
	"testing"

	"loop.example/s0047/impl"
)

func TestObjectKnown(t *testing.T) {
	fails(t, "object a 3 at 100; object a 3 at 200;", 5, 1)
	fails(t, "object a 3 at 100 shared; object b 1 at 5; object a 3 at 200 shared;", 5, 2)
	fails(t, "object a 3 at 100; region 5 a r; object a 3 at 200;", 5, 2)
	reads(t, "object a 3 at 100; object b 3 at 200;")
}

func TestObjectUnknown(t *testing.T) {
	fails(t, "region 5 a r;", 6, 0)
	fails(t, "region 5 a r; object a 3 at 100;", 6, 0)
	fails(t, "object a 3 at 100; region 5 b r;", 6, 1)
	fails(t, "object a 3 at 100; region 5 a r; region 5 b r; object b 3 at 200;", 6, 2)
	// guards and permissions name nothing
	fails(t, "guard 5 1; region 7 r r;", 6, 1)
}

func TestBounds(t *testing.T) {
	fails(t, "object a 0 at 100;", 7, 0)
	reads(t, "object a 1 at 100;")
	fails(t, "object a 0 at 65536;", 7, 0)
	fails(t, "object a 1 at 65536;", 7, 0)
	reads(t, "object a 1 at 65535;")
	fails(t, "object a 2 at 65535;", 7, 0)
	reads(t, "object a 65536 at 0;")
	fails(t, "object a 65537 at 0;", 7, 0)
	fails(t, "object a 65536 at 1;", 7, 0)
	reads(t, "object a 65535 at 1;")
	fails(t, "guard 5 0;", 7, 0)
	fails(t, "guard 4096 0;", 7, 0)
	fails(t, "guard 4096 1;", 7, 0)
	reads(t, "guard 4095 1;")
	fails(t, "guard 4095 2;", 7, 0)
	reads(t, "guard 0 4096;")
	fails(t, "guard 0 4097;", 7, 0)
	fails(t, "guard 1 4096;", 7, 0)
	reads(t, "object a 3 at 100; region 4093 a r;", impl.Span{Page: 4093, Count: 3, Out: 100, Perm: 1})
	fails(t, "object a 3 at 100; region 4094 a r;", 7, 1)
	fails(t, "object a 1 at 100; region 4096 a r;", 7, 1)
	reads(t, "object a 4096 at 100; region 0 a r;", impl.Span{Page: 0, Count: 4096, Out: 100, Perm: 1})
	fails(t, "object a 4096 at 100; region 1 a r;", 7, 1)
	fails(t, "object a 4097 at 100; region 0 a r;", 7, 1)
	// an object that no region can have is one nevertheless
	fails(t, "object a 65536 at 0; region 0 a r;", 7, 1)
}

func TestObjectsOverlap(t *testing.T) {
	fails(t, "object a 3 at 100; object b 3 at 102;", 8, 1)
	reads(t, "object a 3 at 100; object b 3 at 103;")
	fails(t, "object a 3 at 100; object b 3 at 98;", 8, 1)
	reads(t, "object a 3 at 100; object b 3 at 97;")
	fails(t, "object a 3 at 100; object b 3 at 100;", 8, 1)
	fails(t, "object a 3 at 100; object b 1 at 101;", 8, 1)
	fails(t, "object a 3 at 100; object b 9 at 97;", 8, 1)
	fails(t, "object a 3 at 100 shared; object b 3 at 102 shared;", 8, 1)
	fails(t, "object a 3 at 100; object b 3 at 200; object c 3 at 300; object d 5 at 96;", 8, 3)
	reads(t, "object a 3 at 100; object b 3 at 200; object c 97 at 103;")
	fails(t, "object a 3 at 100; object b 3 at 200; object c 98 at 103;", 8, 2)
	// frames are no pages
	reads(t, "object a 3 at 100; guard 100 3; object b 3 at 0; region 0 a r;", impl.Span{Page: 0, Count: 3, Out: 100, Perm: 1})
}

func TestPagesOverlap(t *testing.T) {
	head := "object a 3 at 100; object b 3 at 200; object s 3 at 300 shared; region 50 a r;"
	for _, row := range []struct {
		stmt string
		code int
	}{
		{"guard 52 1;", 8}, {"guard 53 1;", 0}, {"guard 50 1;", 8}, {"guard 49 1;", 0}, {"guard 49 2;", 8}, {"guard 51 1;", 8}, {"guard 40 50;", 8}, {"guard 0 50;", 0}, {"guard 53 4043;", 0},
		{"region 52 b r;", 8}, {"region 53 b r;", 0}, {"region 47 b r;", 0}, {"region 48 b r;", 8}, {"region 50 b r huge;", 8}, {"region 52 s r;", 8}, {"region 53 s r;", 0},
	} {
		if row.code == 0 {
			checkPolicy(t, head+row.stmt, true)
			if _, d := impl.ReadPolicy(head + row.stmt); d.Code != 0 {
				t.Errorf("%s: %v", row.stmt, d)
			}
			continue
		}
		fails(t, head+row.stmt, row.code, 4)
	}
	fails(t, "guard 5 5; guard 9 1;", 8, 1)
	reads(t, "guard 5 5; guard 10 1; guard 4 1;")
	fails(t, "guard 5 5; guard 10 1; guard 4 1; guard 4 7;", 8, 3)
	fails(t, "object a 3 at 100; guard 50 1; region 50 a r;", 8, 2)
	fails(t, "object a 3 at 100; guard 52 1; region 50 a r;", 8, 2)
	reads(t, "object a 3 at 100; guard 53 1; region 50 a r;", impl.Span{Page: 50, Count: 3, Out: 100, Perm: 1})
	fails(t, "object s 3 at 300 shared; region 50 s r; region 52 s r;", 8, 2)
	fails(t, "object s 3 at 300 shared; region 50 s r; region 50 s r;", 8, 2)
}

func TestMappedTwice(t *testing.T) {
	fails(t, "object a 3 at 100; region 5 a r; region 8 a r;", 9, 2)
	fails(t, "object a 3 at 100; region 5 a r; guard 0 1; object b 1 at 7; region 20 b r; region 1000 a w huge;", 9, 5)
	reads(t, "object a 3 at 100 shared; region 5 a r; region 9 a r;", impl.Span{Page: 5, Count: 3, Out: 100, Perm: 1}, impl.Span{Page: 9, Count: 3, Out: 100, Perm: 1})
}

func TestWriteAndFetch(t *testing.T) {
	head := "object a 3 at 100 shared;"
	fails(t, head+"region 5 a wx;", 10, 1)
	fails(t, head+"region 5 a rwx;", 10, 1)
	fails(t, head+"region 5 a rw; region 8 a rx;", 10, 2)
	fails(t, head+"region 5 a x; region 8 a w;", 10, 2)
	fails(t, head+"region 5 a w; region 8 a r; region 20 a r; region 30 a x;", 10, 4)
	fails(t, head+"region 5 a x; region 8 a r; region 20 a rx; region 30 a wx;", 10, 4)
	// what other objects have says nothing
	reads(t, head+"object b 3 at 200 shared; region 5 a w; region 8 b x;", impl.Span{Page: 5, Count: 3, Out: 100, Perm: 2}, impl.Span{Page: 8, Count: 3, Out: 200, Perm: 4})
	reads(t, head+"region 5 a rw; region 8 a w; region 11 a r; region 20 a w;",
		impl.Span{Page: 5, Count: 3, Out: 100, Perm: 3}, impl.Span{Page: 8, Count: 3, Out: 100, Perm: 2}, impl.Span{Page: 11, Count: 3, Out: 100, Perm: 1}, impl.Span{Page: 20, Count: 3, Out: 100, Perm: 2})
	reads(t, head+"region 5 a x; region 8 a rx; region 20 a r;",
		impl.Span{Page: 5, Count: 3, Out: 100, Perm: 4}, impl.Span{Page: 8, Count: 3, Out: 100, Perm: 5}, impl.Span{Page: 20, Count: 3, Out: 100, Perm: 1})
	// an object that is not shared may have both
	reads(t, "object a 3 at 100; region 5 a wx;", impl.Span{Page: 5, Count: 3, Out: 100, Perm: 6})
	reads(t, "object a 3 at 100; region 5 a rwx;", impl.Span{Page: 5, Count: 3, Out: 100, Perm: 7})
}

// TestCodesMeet has every pair of codes that one statement can deserve.
func TestCodesMeet(t *testing.T) {
	head := "object a 3 at 100; object s 3 at 200 shared; region 50 a r; region 60 s w; guard 70 5;"
	for _, row := range []struct {
		meet string
		stmt string
		code int
	}{
		{"4 and 5", "object a 3 at 300 huge;", 4},
		{"4 and 6", "region 5 b wr;", 4},
		{"4 and 7, object", "object b 0 at 300 huge;", 4},
		{"4 and 7, region", "region 4095 s w shared;", 4},
		{"4 and 7, guard", "guard 5 0 0;", 4},
		{"4 and 8, object", "object b 3 at 102 shared shared;", 4},
		{"4 and 8, region", "region 50 s w huge huge;", 4},
		{"4 and 8, guard", "guard 50 1 1;", 4},
		{"4 and 9", "region 5 a r r;", 4},
		{"4 and 10", "region 5 s x x;", 4},
		{"5 and 7, count", "object a 0 at 300;", 5},
		{"5 and 7, end", "object s 2 at 65535;", 5},
		{"5 and 8", "object a 3 at 100;", 5},
		{"5, 7 and 8", "object a 65536 at 100;", 5},
		{"6 and 7", "region 4096 b r;", 6},
		{"6 and 8", "region 50 b r;", 6},
		{"7 and 8, object", "object b 65500 at 102;", 7},
		{"7 and 8, guard", "guard 74 4096;", 7},
		{"no frame among others", "object b 0 at 101;", 7},
		{"no page among others", "guard 51 0;", 7},
		{"7 and 9", "region 4094 a r;", 7},
		{"7 and 10", "region 4094 s x;", 7},
		{"8 and 9, with itself", "region 50 a r;", 8},
		{"8 and 9, with another", "region 74 a r;", 8},
		{"8 and 10", "region 62 s x;", 8},
		{"8 and 10, both", "region 72 s wx;", 8},
		{"9 alone, with write and fetch", "region 5 a wx;", 9},
		{"10 alone", "region 5 s x;", 10},
	} {
		t.Run(row.meet, func(t *testing.T) { fails(t, head+row.stmt, row.code, 5) })
	}
	// a region can be past the end and meet an earlier one
	fails(t, "object a 3 at 100; object b 9 at 200; region 4093 a r; region 4092 b r;", 7, 3)
}

func TestFirstStatementThatFails(t *testing.T) {
	// whatever its code is, the earlier one counts
	stmts := []string{";", "object a 1 at 9;", "region 5 b r;", "guard 0 0;", "guard 50 1;", "region 5 a r;", "region 5 s x;"}
	codes := []int{4, 5, 6, 7, 8, 9, 10}
	head := "object a 3 at 100; object s 3 at 200 shared; region 50 a r; region 60 s w;"
	for i, first := range stmts {
		for _, second := range stmts {
			fails(t, head+first+second, codes[i], 4)
			fails(t, head+"guard 80 1; "+first+" guard 90 1; "+second+second, codes[i], 5)
			fails(t, head+first+second+"guard", codes[i], 4)
		}
	}
	// nothing comes of the statements behind
	fails(t, "region 5 a r; object a 3 at 100; region 5 a r;", 6, 0)
}

func TestSpansInOrder(t *testing.T) {
	reads(t, "object a 3 at 100; object b 4 at 50; object c 1 at 0; region 4095 c x; region 9 b w; region 5 a r;",
		impl.Span{Page: 5, Count: 3, Out: 100, Perm: 1}, impl.Span{Page: 9, Count: 4, Out: 50, Perm: 2}, impl.Span{Page: 4095, Count: 1, Out: 0, Perm: 4})
	// guards and objects that nothing maps make no span
	reads(t, "guard 0 5; object a 3 at 100; guard 8 1; region 5 a r; guard 9 4087; object b 3 at 200;", impl.Span{Page: 5, Count: 3, Out: 100, Perm: 1})
	reads(t, "object a 3 at 100; guard 0 4096;")
}

func TestSpansJoined(t *testing.T) {
	objects := "object a 2 at 10; object b 3 at 12; object c 4 at 15;"
	whole := impl.Span{Page: 5, Count: 9, Out: 10, Perm: 3}
	regions := []string{"region 5 a rw;", "region 7 b rw;", "region 10 c rw;"}
	for _, order := range [][]int{{0, 1, 2}, {0, 2, 1}, {1, 0, 2}, {1, 2, 0}, {2, 0, 1}, {2, 1, 0}} {
		text := objects + regions[order[0]] + regions[order[1]] + regions[order[2]]
		reads(t, text, whole)
		huge := whole
		huge.Huge = true
		reads(t, strings.ReplaceAll(text, " rw;", " rw huge;"), huge)
	}
	reads(t, objects+"region 7 b rw; region 5 a rw;", impl.Span{Page: 5, Count: 5, Out: 10, Perm: 3})
	reads(t, objects+"region 10 c rw; region 7 b rw;", impl.Span{Page: 7, Count: 7, Out: 12, Perm: 3})
	// the second differs in one thing: both sides stay apart
	a, c := impl.Span{Page: 5, Count: 2, Out: 10, Perm: 3}, impl.Span{Page: 10, Count: 4, Out: 15, Perm: 3}
	reads(t, objects+"region 10 c rw; region 7 b r; region 5 a rw;", a, impl.Span{Page: 7, Count: 3, Out: 12, Perm: 1}, c)
	reads(t, objects+"region 10 c rw; region 7 b rw huge; region 5 a rw;", a, impl.Span{Page: 7, Count: 3, Out: 12, Perm: 3, Huge: true}, c)
	reads(t, "object a 2 at 10; object b 3 at 20; object c 4 at 15; region 10 c rw; region 7 b rw; region 5 a rw;", a, impl.Span{Page: 7, Count: 3, Out: 20, Perm: 3}, c)
	// frames that go on where pages do not, and the other way round
	reads(t, objects+"region 5 a rw; region 8 b rw;", a, impl.Span{Page: 8, Count: 3, Out: 12, Perm: 3})
	reads(t, objects+"region 5 b rw; region 8 a rw;", impl.Span{Page: 5, Count: 3, Out: 12, Perm: 3}, impl.Span{Page: 8, Count: 2, Out: 10, Perm: 3})
	// a guard between does not join, one page is enough
	reads(t, objects+"guard 7 1; region 8 b rw; region 5 a rw;", a, impl.Span{Page: 8, Count: 3, Out: 12, Perm: 3})
}

func TestSpansOfSharedObjects(t *testing.T) {
	// the same frames again do not go on
	reads(t, "object a 2 at 10 shared; region 7 a r; region 5 a r;", impl.Span{Page: 5, Count: 2, Out: 10, Perm: 1}, impl.Span{Page: 7, Count: 2, Out: 10, Perm: 1})
	// but a shared object's regions are joined with those of its neighbours
	reads(t, "object a 2 at 10 shared; object b 2 at 12 shared; region 9 a r; region 7 b r; region 5 a r; region 11 b r; region 13 b r;",
		impl.Span{Page: 5, Count: 4, Out: 10, Perm: 1}, impl.Span{Page: 9, Count: 4, Out: 10, Perm: 1}, impl.Span{Page: 13, Count: 2, Out: 12, Perm: 1})
	reads(t, "object a 2 at 10 shared; object b 2 at 12; region 7 b r; region 5 a r;", impl.Span{Page: 5, Count: 4, Out: 10, Perm: 1})
}

// sizes are At's sizes of the pages.
func sizes(t *testing.T, text string, pages ...int) []int {
	t.Helper()
	s, d := impl.ReadPolicy(text)
	if d.Code != 0 {
		t.Fatalf("%q: %v", text, d)
	}
	var found []int
	for _, page := range pages {
		found = append(found, impl.At(s, page).Size)
	}
	return found
}

func TestHugeRegions(t *testing.T) {
	for _, row := range []struct {
		name string
		text string
		want []int // of the pages 15, 16, 31, 32
	}{
		{"one group", "object a 16 at 32; region 16 a rw huge;", []int{0, 16, 16, 0}},
		{"not huge", "object a 16 at 32; region 16 a rw;", []int{0, 1, 1, 0}},
		{"frames at no multiple", "object a 16 at 33; region 16 a rw huge;", []int{0, 1, 1, 0}},
		{"pages at no multiple", "object a 16 at 32; region 17 a rw huge;", []int{0, 0, 1, 1}},
		{"a page before", "object a 17 at 31; region 15 a rw huge;", []int{1, 16, 16, 0}},
		{"a page behind", "object a 17 at 32; region 16 a rw huge;", []int{0, 16, 16, 1}},
		{"two halves that are joined", "object a 8 at 32; object b 8 at 40; region 24 b rw huge; region 16 a rw huge;", []int{0, 16, 16, 0}},
		{"two halves that differ", "object a 8 at 32; object b 8 at 40; region 24 b r huge; region 16 a rw huge;", []int{0, 1, 1, 0}},
		{"two halves, one not huge", "object a 8 at 32; object b 8 at 40; region 24 b rw; region 16 a rw huge;", []int{0, 1, 1, 0}},
		{"beside others", "object a 16 at 32; object b 1 at 31; object c 1 at 48; region 15 b rw; region 16 a rw huge; region 32 c rw;", []int{1, 16, 16, 1}},
		{"beside huge ones", "object a 16 at 32; object b 16 at 16; object c 16 at 48; region 0 b rw huge; region 16 a rw huge; region 32 c rw huge;", []int{16, 16, 16, 16}},
	} {
		if got := sizes(t, row.text, 15, 16, 31, 32); !slices.Equal(got, row.want) {
			t.Errorf("%s: sizes %v, want %v", row.name, got, row.want)
		}
		checkPolicy(t, row.text, true)
	}
}

// TestFullPolicy has as many statements as there may be.
func TestFullPolicy(t *testing.T) {
	var down, up strings.Builder
	var want []impl.Span
	n := strconv.Itoa
	for i := range 500 {
		down.WriteString("object a" + n(i) + " 1 at " + n(2*i) + ";region " + n(1000-i) + " a" + n(i) + " r;")
		want = append(want, impl.Span{Page: 501 + i, Count: 1, Out: 2 * (499 - i), Perm: 1})
		up.WriteString("object a" + n(i) + " 2 at " + n(2*i) + ";region " + n(7+2*i) + " a" + n(i) + " r;")
	}
	reads(t, down.String(), want...)
	reads(t, up.String(), impl.Span{Page: 7, Count: 1000, Out: 0, Perm: 1})
}
