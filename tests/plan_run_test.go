package tests

import (
	"math"
	"math/rand"
	"regexp"
	"slices"
	"strconv"
	"strings"
	"testing"

	"loop.example/s0047/impl"
)

const (
	textOld = "object text 3 at 100; region 5 text rx;"
	textNew = "object text 3 at 100; object data 16 at 32;\nregion 5 text r; region 16 data rw huge;"
)

func checkCompile(t *testing.T, a string, b string, frames int, code int, at int) {
	t.Helper()
	ops, d := impl.Compile(a, b, frames)
	if want := (impl.Diag{Code: code, At: at}); d != want || len(ops) != 0 {
		t.Errorf("%.60q, %.60q, %d frames: %v and %d operations, want %v and none", a, b, frames, d, len(ops), want)
	}
	for _, script := range []string{"", "step", "?", strings.Repeat("step\n", 12001)} {
		checkReport(t, a, b, frames, script, impl.Report{Code: code, At: at})
	}
}

func sameReport(a impl.Report, b impl.Report) bool {
	return a.Code == b.Code && a.At == b.At && slices.Equal(a.Ops, b.Ops) && slices.Equal(a.Seen, b.Seen) && slices.Equal(a.Final, b.Final)
}

// checkReport runs twice, and spoils the lists of the first report one by one,
// to see that they share nothing with each other or with the second.
func checkReport(t *testing.T, a string, b string, frames int, script string, want impl.Report) {
	t.Helper()
	got := impl.Run(a, b, frames, script)
	if !sameReport(got, want) {
		t.Fatalf("%.60q, %.60q, %d frames, %.60q: code %d at %d, %d operations, %d seen, %d pages; want code %d at %d, %d, %d, %d", a, b, frames, script,
			got.Code, got.At, len(got.Ops), len(got.Seen), len(got.Final), want.Code, want.At, len(want.Ops), len(want.Seen), len(want.Final))
	}
	spoilList(got.Ops, markOp)
	if !slices.Equal(got.Seen, want.Seen) || !slices.Equal(got.Final, want.Final) {
		t.Fatal("the operations share memory")
	}
	spoilList(got.Seen, impl.Seen{Page: -7})
	if !slices.Equal(got.Final, want.Final) {
		t.Fatal("what was seen shares memory")
	}
	spoilList(got.Final, impl.Hit{Kind: -7})
	if again := impl.Run(a, b, frames, script); !sameReport(again, want) {
		t.Fatalf("another report of the same run")
	}
}

type faultyText struct {
	text string
	code int
	at   int
}

// faultyTexts have each code of a policy.
func faultyTexts() []faultyText {
	good := "object a 2 at 3; region 5 a r; "
	return []faultyText{
		{strings.Repeat(" ", 20001), 1, 0},
		{good + "!", 2, len(good)},
		{guards(1001), 3, 1000},
		{good + "guard 1;", 4, 2},
		{good + "object a 1 at 9;", 5, 2},
		{good + "guard 1 1; region 9 b r;", 6, 3},
		{good + "guard 9 0;", 7, 2},
		{good + "guard 6 1;", 8, 2},
		{good + "region 9 a r;", 9, 2},
		{good + "object s 1 at 9 shared; region 20 s w; region 30 s x;", 10, 4},
	}
}

func TestCompilePolicyCodes(t *testing.T) {
	for _, row := range faultyTexts() {
		for _, frames := range []int{-1, 0, 1, 2, 9, 512, 513} {
			for _, b := range []string{"", textNew, row.text, "!", "guard 1 1; guard 1 1;"} {
				checkCompile(t, row.text, b, frames, 100+row.code, row.at)
			}
			for _, a := range []string{"", textOld} {
				checkCompile(t, a, row.text, frames, 200+row.code, row.at)
			}
		}
	}
}

func TestCompileFrameCodes(t *testing.T) {
	for _, frames := range []int{math.MinInt, -1, 0, 513, math.MaxInt} {
		for _, a := range []string{"", textOld, "object all 4096 at 0; region 0 all r;"} {
			checkCompile(t, a, textNew, frames, 302, 0)
		}
	}
	for _, frames := range []int{1, 2} {
		checkCompile(t, textOld, "", frames, 303, 0)
		checkCompile(t, textOld, textNew, frames, 303, 0)
		checkCompile(t, "", textOld, frames, 403, 0)
	}
	wide := "object x 1 at 0 shared; region 5 x r; region 300 x r;"
	for _, frames := range []int{3, 4} {
		checkCompile(t, textOld, wide, frames, 403, 0)
	}
	checkCompile(t, "", "object all 4096 at 0; region 0 all r;", 272, 403, 0)
	checkCompile(t, "object all 4096 at 0; region 0 all r;", "", 272, 303, 0)
}

func TestCompileJustEnough(t *testing.T) {
	all := "object all 4096 at 0; region 0 all r;"
	rows := []struct {
		a, b   string
		frames int
	}{
		{"", "", 1}, {"", "", 512}, {textOld, "", 3}, {"", textOld, 3}, {textOld, textNew, 3}, {textNew, textOld, 3},
		{all, "", 273}, {"", all, 273}, {all, all + " # the same", 512}, {all, "object all 4096 at 0; region 0 all r huge;", 273},
		{"guard 0 4096;", "# nothing", 1},
	}
	for _, row := range rows {
		ops, d := impl.Compile(row.a, row.b, row.frames)
		if d != (impl.Diag{}) {
			t.Fatalf("%.60q, %.60q, %d frames: %v", row.a, row.b, row.frames, d)
		}
		old, _ := impl.ReadPolicy(row.a)
		now, _ := impl.ReadPolicy(row.b)
		m, _ := impl.Build(old, row.frames)
		if want := modelProgram(m.Words, hitsOf(now)); !slices.Equal(ops, want) {
			t.Fatalf("%.60q, %.60q, %d frames: %v, want %v", row.a, row.b, row.frames, ops, want)
		}
		checkPlanned(t, m, hitsOf(now), ops)
		spoilList(ops, markOp)
		checkReport(t, row.a, row.b, row.frames, "", modelRun(row.a, row.b, row.frames, ""))
	}
}

// The document's own example.
func TestCompileExample(t *testing.T) {
	ops, d := impl.Compile(textOld, textNew, 3)
	want := opsOf(
		one(write(37, 0), write(38, 0), write(39, 0), dsb, tlbi(5, 3), dsb),
		one(write(37, pageWord(100, 1)), write(38, pageWord(101, 1)), write(39, pageWord(102, 1)), write(17, blockWord(32, 3)), dsb))
	if d != (impl.Diag{}) || !slices.Equal(ops, want) {
		t.Errorf("%v %v, want %v", d, ops, want)
	}
}

var (
	stepForm   = regexp.MustCompile(`^step$`)
	choiceForm = regexp.MustCompile(`^(drop|forget) ` + numberPattern + `$`)
	pagedForm  = regexp.MustCompile(`^(fill|read|write|fetch) ` + numberPattern + ` ` + numberPattern + `$`)
)

// modelLine reads a line by patterns.
func modelLine(line string) (impl.Event, bool) {
	if stepForm.MatchString(line) {
		return step, true
	}
	if w := choiceForm.FindStringSubmatch(line); w != nil {
		kind := map[string]int{"drop": impl.EDrop, "forget": impl.EForget}[w[1]]
		return impl.Event{Kind: kind, Choice: modelNumber(w[2])}, modelNumber(w[2]) <= 65535
	}
	if w := pagedForm.FindStringSubmatch(line); w != nil {
		page, choice := modelNumber(w[2]), modelNumber(w[3])
		need := map[string]int{"read": 1, "write": 2, "fetch": 4}[w[1]]
		e := access(page, need, choice)
		if w[1] == "fill" {
			e = fill(page, choice)
		}
		return e, page <= 4095 && choice <= 65535
	}
	return impl.Event{}, false
}

func modelScript(script string) ([]impl.Event, impl.Diag) {
	if len(script) > 60000 {
		return nil, impl.Diag{Code: 501}
	}
	lines := strings.Split(script, "\n")
	if lines[len(lines)-1] == "" {
		lines = lines[:len(lines)-1]
	}
	var events []impl.Event
	for i, line := range lines {
		e, ok := modelLine(line)
		if !ok {
			return nil, impl.Diag{Code: 502, At: i}
		}
		events = append(events, e)
	}
	if len(events) > 10000 {
		return nil, impl.Diag{Code: 503}
	}
	return events, impl.Diag{}
}

// modelRun goes by the functions below Run, and by the model of the script.
func modelRun(a string, b string, frames int, script string) impl.Report {
	ops, d := impl.Compile(a, b, frames)
	if d.Code != 0 {
		return impl.Report{Code: d.Code, At: d.At}
	}
	events, d := modelScript(script)
	if d.Code != 0 {
		return impl.Report{Code: d.Code, At: d.At}
	}
	s, _ := impl.ReadPolicy(a)
	m, _ := impl.Build(s, frames)
	o := impl.Exec(impl.Machine{Mem: m}, ops, events)
	if o.Code != 0 {
		return impl.Report{Code: 600 + o.Code, At: o.At}
	}
	return impl.Report{At: len(ops), Ops: ops, Seen: o.Seen, Final: allWalks(o.Final.Mem)}
}

// checkScript asks for the code and the place of a script's fault, or for a whole
// report if the code is 0.
func checkScript(t *testing.T, script string, code int, at int) {
	t.Helper()
	want := impl.Report{Code: code, At: at}
	if code == 0 {
		want = modelRun(textOld, textNew, 3, script)
		if want.Code != 0 {
			t.Fatalf("%.60q: the model gives code %d", script, want.Code)
		}
	}
	checkReport(t, textOld, textNew, 3, script, want)
}

func TestRunLengths(t *testing.T) {
	steps := func(n int) string { return strings.Repeat("step\n", n) }
	long := strings.Repeat("fill 4095 65535\n", 3750)
	if len(long) != 60000 {
		t.Fatalf("%d bytes", len(long))
	}
	checkScript(t, long, 0, 0)
	checkScript(t, long[:59999], 0, 0)
	checkScript(t, long+"\n", 501, 0)
	checkScript(t, long+"s", 501, 0)
	checkScript(t, long[:59998], 0, 0)
	checkScript(t, long[:59999]+"x", 502, 3749)
	checkScript(t, strings.Repeat("?", 60000), 502, 0)
	checkScript(t, strings.Repeat("?", 60001), 501, 0)
	checkScript(t, strings.Repeat("\n", 60000), 502, 0)
	checkScript(t, strings.Repeat("\n", 60001), 501, 0)
	checkScript(t, steps(9999), 0, 0)
	checkScript(t, steps(9999)+"step", 0, 0)
	checkScript(t, steps(10000), 0, 0)
	checkScript(t, steps(10000)+"step", 503, 0)
	checkScript(t, steps(10001), 503, 0)
	checkScript(t, steps(12000), 503, 0)
	checkScript(t, steps(12001), 501, 0)
	checkScript(t, steps(10000)+"\n", 502, 10000)
	checkScript(t, steps(10000)+"stop", 502, 10000)
	checkScript(t, steps(10000)+"step\n\n", 502, 10001)
	checkScript(t, steps(11998)+"stop\n", 502, 11998)
	checkScript(t, "stop\n"+steps(11999), 502, 0)
	checkScript(t, "stop\n"+steps(12000), 501, 0)
}

func TestRunLines(t *testing.T) {
	for _, script := range []string{"", "step", "step\n", "step\nstep", "step\nstep\n", "drop 0", "forget 0\n", "read 0 0\nwrite 0 0\nfetch 0 0\nfill 0 0"} {
		checkScript(t, script, 0, 0)
	}
	for script, at := range map[string]int{
		"\n": 0, "\n\n": 0, "\nstep": 0, "step\n\n": 1, "step\n\nstep": 1, "step\nstep\n\n\n": 2,
		" ": 0, " \n": 0, "step\n ": 1, "step\r\n": 0, "step\nstep\r": 1, "step;": 0, "step # why": 0, "# why": 0,
		"Step": 0, "STEP": 0, "ste": 0, "stepp": 0, "step\x00": 0, "step\tstep": 0, "step step": 0, "step 0": 0, "step 0 0": 0,
		"0": 0, "0 0": 0, "é": 0, "\xff": 0, "fill": 0, "fill\n0 0": 0, "drop\n0": 0, "access 0 0": 0, "tlbi 0 1": 0,
	} {
		checkScript(t, script, 502, at)
	}
}

// goodLines have each kind of line, with numbers at both bounds.
func goodLines() []string {
	lines := []string{"step"}
	for _, choice := range []string{"0", "1", "9", "10", "65534", "65535"} {
		lines = append(lines, "drop "+choice, "forget "+choice)
		for _, page := range []string{"0", "9", "10", "4094", "4095"} {
			for _, word := range []string{"fill ", "read ", "write ", "fetch "} {
				lines = append(lines, word+page+" "+choice)
			}
		}
	}
	return lines
}

func TestRunGoodLines(t *testing.T) {
	checkScript(t, strings.Join(goodLines(), "\n"), 0, 0)
	for _, line := range goodLines() {
		if _, ok := modelLine(line); !ok {
			t.Fatalf("the model refuses %q", line)
		}
		checkScript(t, line, 0, 0)
	}
}

// badNumbers are wrong for pages and for choices alike.
var badNumbers = []string{"", "00", "01", "007", "+1", "-1", "1.", "1e1", "0x1", "1_0", "a", "１", "65536", "65537", "99999", "100000", "999999", "1000000", "0000000", "4294967296", "18446744073709551616"}

func TestRunBadNumbers(t *testing.T) {
	for _, bad := range badNumbers {
		for _, word := range []string{"drop ", "forget "} {
			checkScript(t, "step\n"+word+bad, 502, 1)
		}
		for _, word := range []string{"fill ", "read ", "write ", "fetch "} {
			checkScript(t, word+bad+" 0", 502, 0)
			checkScript(t, word+"0 "+bad+"\n", 502, 0)
		}
	}
	for _, page := range []string{"4096", "4097", "65535"} {
		for _, word := range []string{"fill ", "read ", "write ", "fetch "} {
			checkScript(t, word+page+" 0", 502, 0)
		}
	}
}

// bentLines are a good line with one word less or more, or with other spaces.
func bentLines(line string) []string {
	words := strings.Split(line, " ")
	lines := []string{" " + line, line + " ", line + " 0", line + " 0 0", "step " + line, strings.Replace(line, " ", "\t", 1) + "\t", line + "\r", line + ";"}
	for i := range words {
		lines = append(lines, strings.Join(slices.Delete(slices.Clone(words), i, i+1), " "))
		if i > 0 {
			lines = append(lines, strings.Join(words[:i], " ")+"  "+strings.Join(words[i:], " "))
		}
	}
	return lines
}

func TestRunBentLines(t *testing.T) {
	bent := 0
	for _, line := range []string{"step", "drop 3", "forget 3", "fill 6 64", "read 6 64", "write 6 64", "fetch 6 64"} {
		for _, bad := range bentLines(line) {
			// a line of one word less may be good: drop and forget have one number
			if _, ok := modelLine(bad); !ok {
				bent++
				checkScript(t, "step\n"+bad+"\nstep", 502, 1)
			}
		}
	}
	if bent < 70 {
		t.Errorf("%d bent lines only", bent)
	}
}

// What each kind of line does, seen by what comes of it.
func TestRunEvents(t *testing.T) {
	final := hitsOf([]impl.Span{{Page: 5, Count: 3, Out: 100, Perm: 1}, {Page: 16, Count: 16, Out: 32, Perm: 3, Huge: true}})
	ops, _ := impl.Compile(textOld, textNew, 3)
	script := []string{
		"fill 6 64", "fetch 6 0", "write 6 128", // the TLB now has page 6
		"step", "step", "step", "step", "read 6 128", "drop 0", "read 6 128",
		"fill 5 32", "forget 1", "read 5 1", "forget 0",
		"step", "step", "step", "step", "step", "step", "read 16 0", "write 31 4", "step", "write 31 0", "fetch 31 0", "read 4095 65535"}
	saw := []impl.Seen{
		seen(6, 4, impl.KOk, 101), seen(6, 2, impl.KPerm, 0), seen(6, 1, impl.KOk, 101), seen(6, 1, impl.KFault, 0), seen(5, 1, impl.KFault, 0),
		seen(16, 1, impl.KFault, 0), seen(31, 2, impl.KOk, 47), seen(31, 2, impl.KOk, 47), seen(31, 4, impl.KPerm, 0), seen(4095, 1, impl.KFault, 0)}
	want := impl.Report{At: 11, Ops: ops, Seen: saw, Final: final}
	checkReport(t, textOld, textNew, 3, strings.Join(script, "\n"), want)
	checkReport(t, textOld, textNew, 3, strings.Join(script, "\n")+"\n", want)
	want.Seen = nil
	checkReport(t, textOld, textNew, 3, "", want)
	checkReport(t, textOld, textNew, 3, strings.Repeat("step\n", 40), want)
	checkReport(t, "", "", 1, "step\nread 0 0", impl.Report{Seen: []impl.Seen{seen(0, 1, impl.KFault, 0)}, Final: make([]impl.Hit, 4096)})
}

// anyLine is mostly good.
func anyLine(r *rand.Rand) string {
	line := pick(r, goodLines())
	if r.Intn(3) > 0 {
		word := pick(r, []string{"fill ", "read ", "write ", "fetch "})
		line = word + strconv.Itoa(r.Intn(24)) + " " + strconv.Itoa(r.Intn(256))
	}
	switch r.Intn(200) {
	case 0:
		return pick(r, bentLines(line))
	case 1:
		return spoilText(r, line)
	case 2:
		return pick(r, []string{"read ", "fill 1 ", "drop "}) + pick(r, badNumbers)
	}
	return line
}

func TestRunAgainstModel(t *testing.T) {
	r := rand.New(rand.NewSource(54))
	codes, saw := map[int]int{}, 0
	for range 1500 {
		var script strings.Builder
		for range r.Intn(60) {
			script.WriteString(anyLine(r) + "\n")
		}
		text := strings.TrimRight(script.String(), "\n") + pick(r, []string{"", "\n", "\n", "\n\n"})
		want := modelRun(textOld, textNew, 3, text)
		checkReport(t, textOld, textNew, 3, text, want)
		codes[want.Code]++
		saw += len(want.Seen)
	}
	if codes[0] < 200 || codes[502] < 200 || saw < 5000 {
		t.Errorf("too few of some: %v, %d seen", codes, saw)
	}
}
