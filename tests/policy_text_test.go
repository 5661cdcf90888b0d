package tests

import (
	"slices"
	"strconv"
	"strings"
	"testing"

	"loop.example/s0047/impl"
)

func TestPolicyConstants(t *testing.T) {
	if impl.MaxPolicy != 20000 || impl.MaxStmts != 1000 || impl.MaxName != 16 {
		t.Errorf("constants are %d, %d, %d", impl.MaxPolicy, impl.MaxStmts, impl.MaxName)
	}
}

// reads asks for the spans of a text, twice: the first answer is spoilt to see
// that the second has its own memory.
func reads(t *testing.T, text string, want ...impl.Span) {
	t.Helper()
	for range 2 {
		got, d := impl.ReadPolicy(text)
		if d != (impl.Diag{}) || !slices.Equal(got, want) {
			t.Errorf("%.200q: %v %v, want %v", text, got, d, want)
		}
		spoilList(got, markSpan)
	}
}

func fails(t *testing.T, text string, code int, at int) {
	t.Helper()
	got, d := impl.ReadPolicy(text)
	if want := (impl.Diag{Code: code, At: at}); d != want || len(got) != 0 {
		t.Errorf("%.200q: %v %v, want %v", text, got, d, want)
	}
}

func TestNoStatements(t *testing.T) {
	for _, text := range []string{
		"", " ", "\n", " \n\n  \n", "#", "##", "# no end", "# an end\n", "#\n#\n#", " # ; object a \n \n#;",
		"# \x00\x7f\xff\t\r é ABC ,.-\n", "#\x00", strings.Repeat("\n", 20000), strings.Repeat("#", 20000), strings.Repeat("#\n", 10000),
	} {
		reads(t, text)
	}
}

const oneText = "object a 3 at 100;region 5 a rx;"

var oneSpan = impl.Span{Page: 5, Count: 3, Out: 100, Perm: 5}

func TestGaps(t *testing.T) {
	for _, text := range []string{
		oneText,
		"object a 3 at 100; region 5 a rx;",
		"\n object\na  3\n\nat   100 ;\n\n\nregion 5 a rx\n;\n ",
		"object#\na#x\n3# ;\nat#\n100#\n;#\nregion#\n5#\na#\nrx#\n;",
		"#\nobject a 3 at 100;#\nregion 5 a rx;#",
		"object a 3 at 100; # \xff\x00A; guard\nregion 5 a rx; # the end",
		"object a 3 at 100;### region 5 a r;\nregion 5 a rx;",
		oneText + "# guard 0 0; ;",
	} {
		reads(t, text, oneSpan)
	}
	// a line's end is no statement's end, and a semicolon is no gap in a statement
	fails(t, "object a 3 at 100\nregion 5 a rx;", 4, 0)
	fails(t, "object a 3; at 100;", 4, 0)
	// words are longest runs
	fails(t, "objecta 3 at 100;", 4, 0)
	fails(t, "object a 3at 100;", 4, 0)
	fails(t, "object a 3 at100;", 4, 0)
	fails(t, "guard 12;", 4, 0)
	fails(t, "guard 1_2;", 4, 0)
	fails(t, "gua#\nrd 1 2;", 4, 0)
	// a comment takes the rest of the line
	fails(t, "object a 3 at 100; region 5 # a rx;", 4, 1)
	fails(t, "object a 3 at 100; region 5 # a rx;\nb r;", 6, 1)
}

func TestLength(t *testing.T) {
	full := oneText + strings.Repeat(" ", 20000-len(oneText))
	reads(t, full, oneSpan)
	fails(t, full+" ", 1, 0)
	fails(t, full+"#", 1, 0)
	reads(t, oneText+"#"+strings.Repeat(";", 20000-len(oneText)-1), oneSpan)
	fails(t, oneText+"#"+strings.Repeat(";", 20000-len(oneText)), 1, 0)
	// before every other code
	fails(t, strings.Repeat("\t", 20001), 1, 0)
	fails(t, strings.Repeat(";", 20001), 1, 0)
	fails(t, strings.Repeat("\xff", 1<<20), 1, 0)
	fails(t, strings.Repeat("é", 10001), 1, 0)
	fails(t, strings.Repeat("guard 1 2;", 2001), 1, 0)
	// bytes are counted, not letters
	reads(t, "#"+strings.Repeat("é", 9999))
	reads(t, "#"+strings.Repeat("é", 9999)+"x")
	fails(t, "#"+strings.Repeat("é", 10000), 1, 0)
}

func TestBadBytes(t *testing.T) {
	good := " \n;#_abcdefghijklmnopqrstuvwxyz0123456789"
	for b := range 256 {
		bad := string([]byte{byte(b)})
		if strings.Contains(good, bad) {
			if _, d := impl.ReadPolicy(bad); d.Code == 2 {
				t.Errorf("%q is a bad byte", bad)
			}
			continue
		}
		fails(t, bad, 2, 0)
		fails(t, bad+oneText, 2, 0)
		fails(t, oneText+bad, 2, len(oneText))
		fails(t, "object a"+bad+" 3 at 100;", 2, 8)
		fails(t, "object "+bad+"a 3 at 100;", 2, 7)
		fails(t, "#\n"+bad, 2, 2)
		reads(t, "#"+bad+"\n"+oneText+"#"+bad, oneSpan)
		reads(t, oneText+"# "+bad+bad+"\n", oneSpan)
	}
}

func TestBadBytesComeFirst(t *testing.T) {
	// before the codes of every statement, and before too many of them
	fails(t, ";;;guard;A", 2, 9)
	fails(t, "guard 0 0; A;", 2, 11)
	fails(t, "object a 1 at 1; object a 1 at 1;\r", 2, 33)
	fails(t, strings.Repeat(";", 1001)+"\t", 2, 1001)
	fails(t, strings.Repeat(";", 19999)+"\t", 2, 19999)
	// the first of two
	fails(t, "guard\x00 1 2;\x01", 2, 5)
	fails(t, "# \x00\n\x01\x02", 2, 4)
	// places are bytes
	fails(t, "#éé\né", 2, 6)
	fails(t, strings.Repeat(" ", 19999)+"-", 2, 19999)
}

func guards(n int) string {
	var b strings.Builder
	for i := range n {
		b.WriteString("guard " + strconv.Itoa(i) + " 1;")
	}
	return b.String()
}

func TestManyStatements(t *testing.T) {
	reads(t, guards(1000))
	reads(t, guards(1000)+"# ;;\n  #;")
	reads(t, strings.ReplaceAll(guards(1000), " 1;", " 1;#;\n"))
	fails(t, guards(1001), 3, 1000)
	fails(t, guards(1000)+";", 3, 1000)
	fails(t, guards(1000)+"\n\n;#", 3, 1000)
	fails(t, guards(1000)+"guard", 4, 1000)
	fails(t, guards(1000)+"guard 1000 1", 4, 1000)
	fails(t, guards(999)+"guard 998 1;", 8, 999)
	fails(t, guards(999)+";", 4, 999)
	fails(t, guards(999)+"guard 998 1;guard", 8, 999)
	// before the codes of every statement
	fails(t, strings.Repeat(";", 1000), 4, 0)
	fails(t, strings.Repeat(";", 1001), 3, 1000)
	fails(t, strings.Repeat(";", 20000), 3, 1000)
	fails(t, strings.Repeat("guard 0 0;", 1000), 7, 0)
	fails(t, strings.Repeat("guard 0 0;", 1001), 3, 1000)
	fails(t, strings.Repeat("a;", 1001)+"b", 3, 1000)
}

// formRows are statements that are none, all but the semicolon.
var formRows = []string{
	"", "object", "region", "guard", "at", "shared", "huge", "a", "1", "r", "_", "objects a 3 at 9", "obj a 3 at 9", "guards 1 2",
	// an object with words too few, too many, in the wrong order
	"object a", "object a 3", "object a 3 at", "object a at 9", "object 3 at 9", "object a 3 9", "a 3 at 9", "object at 9",
	"object a 3 at 9 at", "object a 3 at 9 9", "object a 3 at 9 b", "object a 3 at 9 huge", "object a 3 at 9 r", "object a 3 at 9 shared shared",
	"object a 3 at 9 shared huge", "object a 3 at 9 huge shared", "object a 3 at 9 shared 1", "object a a 3 at 9", "object a 3 3 at 9", "object a 3 at at 9",
	"object object a 3 at 9", "object 3 a at 9", "object a at 3 9", "a object 3 at 9", "object a 9 3 at", "object a 3 at shared", "object shared a 3 at 9",
	"object a shared 3 at 9", "object a 3 shared at 9", "object a 3 shared 9", "object a 3 on 9", "object a 3 a 9", "object a 3 at 9 shared_",
	"object a three at 9", "object a 3 at nine", "object a b at 9", "object a 3 at b",
	// a region
	"region 5", "region 5 a", "region 5 r", "region a r", "region 5 a huge", "5 a r", "region a", "region r",
	"region 5 a r r", "region 5 a r huge huge", "region 5 a r shared", "region 5 a r huge shared", "region 5 a r 5", "region 5 a r a", "region 5 5 a r", "region 5 a a r",
	"region region 5 a r", "region a 5 r", "region 5 r a", "region a r 5", "5 region a r", "region 5 huge a r", "region 5 a huge r", "region huge 5 a r",
	"region five a r", "region 5 5 r", "region 5 a 5", "region 5 a r huge_", "region 5 a r at 5", "region 5 at a r",
	// its permissions
	"region 5 a wr", "region 5 a xr", "region 5 a xw", "region 5 a rxw", "region 5 a wrx", "region 5 a xwr", "region 5 a rr", "region 5 a rwxx", "region 5 a r_",
	"region 5 a rwxr", "region 5 a r0", "region 5 a a", "region 5 a read", "region 5 a 7", "region 5 a r w", "region 5 a _r", "region 5 a xx",
	// a guard
	"guard 1", "1 2", "guard 1 2 3", "guard 1 2 guard", "guard 1 2 shared", "guard 1 2 huge", "guard 1 2 r", "guard guard 1 2", "guard a 1", "guard 1 a", "guard a 1 2",
	"guard 1 at 2", "1 guard 2", "1 2 guard", "guard at 1 2", "guard a b",
	// names that are none
	"object object 3 at 9", "object region 3 at 9", "object guard 3 at 9", "object at 3 at 9", "object shared 3 at 9", "object huge 3 at 9",
	"region 5 object r", "region 5 region r", "region 5 guard r", "region 5 at r", "region 5 shared r", "region 5 huge r",
	"object abcdefghijklmnopq 3 at 9", "region 5 abcdefghijklmnopq r", "object 1a 3 at 9", "object _a 3 at 9", "object _ 3 at 9", "object 1 3 at 9", "region 5 _a r", "region 5 1a r", "region 5 1 r",
	"object aaaaaaaaaaaaaaaaaaaaaaaaaaaaaaaaaaaaaaaaaaaaa 3 at 9",
	// numbers that are none
	"object a 03 at 9", "object a 3 at 09", "object a 00 at 9", "object a 3 at 00", "object a 1000000 at 9", "object a 3 at 1000000", "object a 0000003 at 9",
	"object a 3a at 9", "object a 3 at 9a", "object a 3_ at 9", "object a _3 at 9", "object a 3 at 9_0", "object a 12345678901234567890 at 9",
	"region 05 a r", "region 00 a r", "region 1000000 a r", "region 5a a r", "region 000005 a r", "region a5 a r", "region _ a r", "region 18446744073709551621 a r",
	"guard 01 2", "guard 1 02", "guard 00 2", "guard 1 00", "guard 1000000 1", "guard 1 1000000", "guard 1x 2", "guard 1 x2", "guard 1 2_", "guard 0 000000", "guard 0 01",
}

func TestForms(t *testing.T) {
	for _, words := range formRows {
		fails(t, words+";", 4, 0)
		fails(t, words+";object a 3 at 9;", 4, 0)
		fails(t, "object a 3 at 100;"+words+";guard 0 0;", 4, 1)
		fails(t, "object a 3 at 100; region 7 a r;\n"+words+"\n;", 4, 2)
		if words == "" {
			reads(t, "object a 3 at 100;")
		} else {
			fails(t, "object a 3 at 100;"+words, 4, 1)
		}
	}
	// a statement without its semicolon is none, whatever it is
	fails(t, "object a 3 at 100", 4, 0)
	fails(t, "object a 3 at 100; region 5 a rx", 4, 1)
	fails(t, "guard 1 2; guard 4 5 # ;", 4, 1)
	fails(t, "guard 1 2; guard 1 2", 4, 1)
	fails(t, "guard 1 2; guard 0 0", 4, 1)
	fails(t, "object a 3 at 9; object a 3 at 9", 4, 1)
	fails(t, "region 5 b r", 4, 0)
	fails(t, "guard 0 0; guard 1 2", 7, 0)
	fails(t, ";;;", 4, 0)
	fails(t, "guard 1 2;;guard 3 4;", 4, 1)
	fails(t, "guard 1 2; #\n ;", 4, 1)
}

// TestFormsBent makes every statement that is one word off.
func TestFormsBent(t *testing.T) {
	stmts := []string{"object b 3 at 200", "object b 3 at 200 shared", "region 50 a rw", "region 50 a rw huge", "guard 50 6"}
	for _, s := range stmts {
		words := strings.Fields(s)
		for i := range words {
			less := slices.Delete(slices.Clone(words), i, i+1)
			checkBent(t, less)
			for _, odd := range oddWords {
				checkBent(t, slices.Insert(slices.Clone(words), i, odd))
				checkBent(t, append(slices.Clone(words), odd))
				other := slices.Clone(words)
				other[i] = odd
				checkBent(t, other)
			}
			for j := range i {
				turned := slices.Clone(words)
				turned[i], turned[j] = turned[j], turned[i]
				checkBent(t, turned)
			}
		}
	}
}

func checkBent(t *testing.T, words []string) {
	t.Helper()
	checkPolicy(t, "object a 3 at 100;"+strings.Join(words, " ")+";guard 9 1;", false)
}

func TestNames(t *testing.T) {
	for _, name := range []string{
		"a", "z", "a0", "a_", "a__9", "abcdefghijklmnop", "a_23456789012345", "zzzzzzzzzzzzzzzz", "r", "w", "x", "rw", "rx", "wx", "rwx",
		"objects", "objec", "regions", "guard_", "guards", "a_t", "att", "shared1", "huge0", "share", "ats",
	} {
		reads(t, "object "+name+" 3 at 100;region 5 "+name+" rx;", oneSpan)
	}
	// names are told apart by all their bytes
	reads(t, "object abcdefghijklmnop 3 at 100; object abcdefghijklmnoq 1 at 7; object a 1 at 9; region 5 abcdefghijklmnop rx;", oneSpan)
	reads(t, "object r 1 at 1; object rw 3 at 100; region 5 rw rx;", oneSpan)
	fails(t, "object ab 3 at 100; region 5 a r;", 6, 1)
	fails(t, "object a 3 at 100; region 5 ab r;", 6, 1)
	fails(t, "object a_ 3 at 100; region 5 a r;", 6, 1)
}

func TestPerms(t *testing.T) {
	for i, word := range []string{"r", "w", "rw", "x", "rx", "wx", "rwx"} {
		reads(t, "object a 3 at 100; region 5 a "+word+";", impl.Span{Page: 5, Count: 3, Out: 100, Perm: i + 1})
		reads(t, "object a 3 at 100; region 5 a "+word+" huge;", impl.Span{Page: 5, Count: 3, Out: 100, Perm: i + 1, Huge: true})
		reads(t, "object "+word+" 3 at 100; region 5 "+word+" "+word+";", impl.Span{Page: 5, Count: 3, Out: 100, Perm: i + 1})
	}
}

func TestNumbers(t *testing.T) {
	reads(t, "object a 1 at 0; region 0 a r;", impl.Span{Count: 1, Perm: 1})
	reads(t, "object a 10 at 10; region 100 a r;", impl.Span{Page: 100, Count: 10, Out: 10, Perm: 1})
	reads(t, "object a 1234 at 34567; region 890 a r;", impl.Span{Page: 890, Count: 1234, Out: 34567, Perm: 1})
	// six digits are a number, if one too great
	fails(t, "object a 3 at 999999;", 7, 0)
	fails(t, "object a 999999 at 0;", 7, 0)
	fails(t, "object a 100000 at 0;", 7, 0)
	fails(t, "guard 100000 1;", 7, 0)
	fails(t, "guard 0 999999;", 7, 0)
	fails(t, "object a 1 at 0; region 999999 a r;", 7, 1)
	// zero is one too
	fails(t, "object a 0 at 0;", 7, 0)
	fails(t, "guard 0 0;", 7, 0)
}
