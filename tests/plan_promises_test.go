package tests

import (
	"cmp"
	"fmt"
	"math/rand"
	"slices"
	"strconv"
	"strings"
	"testing"

	"loop.example/s0047/impl"
)

// change is a program with all that a run of it is held against.
type change struct {
	a, b   string
	frames int
	mem    impl.Mem
	ops    []impl.Op
	old    []impl.Hit
	now    []impl.Hit
}

func changeOf(t *testing.T, a string, b string, frames int) change {
	t.Helper()
	was, d := checkPolicy(t, a, false)
	will, e := checkPolicy(t, b, false)
	if d.Code != 0 || e.Code != 0 {
		t.Fatalf("%q %v, %q %v", a, d, b, e)
	}
	frames = max(frames, impl.TablesNeeded(was), impl.TablesNeeded(will))
	m, _ := impl.Build(was, frames)
	ops, d := impl.Compile(a, b, frames)
	if d.Code != 0 {
		t.Fatalf("%q, %q, %d frames: %v", a, b, frames, d)
	}
	return change{a: a, b: b, frames: frames, mem: m, ops: ops, old: hitsOf(was), now: hitsOf(will)}
}

// wrongSight is promise 12: what may not be seen, or nothing.
func (c change) wrongSight(saw impl.Seen) string {
	was, will := c.old[saw.Page], c.now[saw.Page]
	fault := impl.Seen{Page: saw.Page, Need: saw.Need}
	switch {
	case saw == fault && was == will && was.Kind == impl.KOk:
		return fmt.Sprintf("a fault on a page that stays %v: %v", was, saw)
	case saw == fault, saw == modelSeen(saw.Page, saw.Need, was), saw == modelSeen(saw.Page, saw.Need, will):
		return ""
	}
	return fmt.Sprintf("%v is neither of %v nor of %v", saw, was, will)
}

// isNew tells whether the access shows the page as it is to be, and not as it was.
func (c change) isNew(saw impl.Seen) bool {
	will := modelSeen(saw.Page, saw.Need, c.now[saw.Page])
	return saw == will && will.Kind != impl.KFault && will != modelSeen(saw.Page, saw.Need, c.old[saw.Page])
}

func (c change) isOld(saw impl.Seen) bool {
	was := modelSeen(saw.Page, saw.Need, c.old[saw.Page])
	return saw == was && was.Kind != impl.KFault && was != modelSeen(saw.Page, saw.Need, c.now[saw.Page])
}

// wrongSights is promises 12 and 13 for what a run has seen.
func (c change) wrongSights(saw []impl.Seen) string {
	fresh := map[int]bool{}
	for i, s := range saw {
		if wrong := c.wrongSight(s); wrong != "" {
			return wrong
		}
		if fresh[s.Page] && c.isOld(s) {
			return fmt.Sprintf("access %d: %v is old, though the new was seen", i, s)
		}
		fresh[s.Page] = fresh[s.Page] || c.isNew(s)
	}
	return ""
}

// wrongEnd is promise 14, and the mappings themselves.
func (c change) wrongEnd(m impl.Machine) string {
	if !slices.Equal(allWalks(m.Mem), c.now) || len(m.Pend) > 0 {
		return "not the new mappings, or not for certain"
	}
	for _, e := range m.Tlb {
		for i := range e.Size {
			if want := (impl.Hit{Kind: impl.KOk, Out: e.Out + i, Perm: e.Perm, Size: e.Size}); c.now[e.Page+i] != want {
				return fmt.Sprintf("%v is left, page %d is %v", e, e.Page+i, c.now[e.Page+i])
			}
		}
	}
	places, _ := impl.Places(m.Mem)
	for _, e := range m.Wc {
		if !slices.Contains(places, placeRow{Frame: e.Table, Level: e.Level, Page: e.Page}) {
			return fmt.Sprintf("%v is left, which is no place", e)
		}
	}
	if impl.Conflict(m) {
		return "a conflict is left"
	}
	return ""
}

// machineBefore is the machine right before an operation is made.
func (c change) machineBefore(script []impl.Event, at int) impl.Machine {
	steps := 0
	for i, e := range script {
		if e.Kind == impl.EStep {
			if steps == at {
				script = script[:i]
				break
			}
			steps++
		}
	}
	return impl.Exec(impl.Machine{Mem: c.mem}, c.ops[:at], script).Final
}

func (c change) first(kind int) int {
	return slices.IndexFunc(c.ops, func(op impl.Op) bool { return op.Kind == kind })
}

// wrongFree is promise 15. All frees of a program stand together, but events may
// come between them.
func (c change) wrongFree(script []impl.Event) string {
	for at, op := range c.ops {
		if op.Kind != impl.OFree {
			continue
		}
		if m := c.machineBefore(script, at); modelFreeCode(&m, op.A) != 0 {
			return fmt.Sprintf("frame %d is freed while it is in use", op.A)
		}
	}
	return ""
}

// wrong runs the program while a script happens; promises 11 to 15.
func (c change) wrong(script []impl.Event) (string, impl.Outcome) {
	o := impl.Exec(impl.Machine{Mem: c.mem}, c.ops, script)
	if o.Code != 0 {
		return fmt.Sprintf("code %d at %d", o.Code, o.At), o
	}
	return cmp.Or(c.wrongSights(o.Seen), c.wrongEnd(o.Final), c.wrongFree(script)), o
}

// bendPolicy changes one group of a policy. Every page has frames of its own, so
// that no two objects of the policy have one in common.
func bendPolicy(r *rand.Rand, pages []modelPage, first int) {
	group := pages[first : first+16]
	perm, out := 1+r.Intn(7), 4096*r.Intn(15)+first
	kind := r.Intn(9)
	for i := range group {
		switch {
		case kind == 0:
			group[i] = modelPage{}
		case kind < 3:
			group[i] = modelPage{out: out + i, perm: perm, huge: true, mapped: true}
		case kind == 3:
			group[i] = modelPage{out: out + i, perm: perm, mapped: true}
		case kind == 4:
			group[i] = modelPage{out: 61440 + (first+i+1)%4096, perm: perm, huge: true, mapped: true}
		case kind == 5 && group[i].mapped:
			group[i].huge = !group[i].huge
		case kind == 6 && group[i].mapped:
			group[i].perm = perm
		case kind > 6 && r.Intn(6) == 0:
			group[i] = pick(r, []modelPage{{}, {out: out + i, perm: perm, mapped: true}})
		}
	}
}

// fewGroups often touch, within 256 pages and over their border.
var fewGroups = []int{0, 16, 224, 240, 256, 272, 496, 512, 3824, 3840, 4064, 4080}

func bendPolicies(r *rand.Rand, pages []modelPage, times int) []modelPage {
	bent := slices.Clone(pages)
	for range times {
		first := pick(r, fewGroups)
		if r.Intn(6) == 0 {
			clear(bent[first/256*256 : first/256*256+256])
		}
		bendPolicy(r, bent, first)
	}
	return bent
}

func policyText(pages []modelPage) string {
	var b strings.Builder
	for i, s := range modelSpans(pages) {
		huge := ""
		if s.Huge {
			huge = " huge"
		}
		perm := permWords[slices.IndexFunc(permWords, func(w string) bool { return modelPerm(w) == s.Perm })]
		fmt.Fprintf(&b, "object o%d %d at %d;region %d o%d %s%s;", i, s.Count, s.Out, s.Page, i, perm, huge)
	}
	return b.String()
}

func anyChange(t *testing.T, r *rand.Rand) change {
	t.Helper()
	pages := bendPolicies(r, make([]modelPage, 4096), 3+r.Intn(8))
	bent := bendPolicies(r, pages, 1+r.Intn(6))
	return changeOf(t, policyText(pages), policyText(bent), pick(r, []int{0, 0, 20}))
}

// busyPages are some of those that change, some that stay and any other.
func (c change) busyPages(r *rand.Rand) []int {
	pages := []int{pick(r, fewGroups), r.Intn(4096)}
	var changed, stay []int
	for page := range 4096 {
		if c.old[page] != c.now[page] {
			changed = append(changed, page)
		} else if c.old[page].Kind == impl.KOk {
			stay = append(stay, page)
		}
	}
	for i := range 6 {
		if len(changed) > 0 && i < 5 {
			pages = append(pages, pick(r, changed))
		}
		if len(stay) > 0 && i < 3 {
			pages = append(pages, pick(r, stay))
		}
	}
	return pages
}

func busyEvent(r *rand.Rand, pages []int) impl.Event {
	choice := r.Intn(256)
	if r.Intn(2) == 0 {
		choice |= pick(r, []int{bitsAdd, bitWc | bitsAdd, bitsLate | bitsAdd, bitAddTlb, bitAdd2, bitTlb, unusedHigh})
	}
	switch n := r.Intn(20); {
	case n < 8:
		return fill(pick(r, pages), choice)
	case n == 8:
		return drop(r.Intn(6))
	case n == 9:
		return forget(r.Intn(6))
	}
	return access(pick(r, pages), 1<<r.Intn(3), choice)
}

// busyScript lets much happen before, between and after the operations.
func (c change) busyScript(r *rand.Rand, limit int) []impl.Event {
	pages := c.busyPages(r)
	var script []impl.Event
	most := min(60, limit/(len(c.ops)+2))
	for range len(c.ops) + 1 {
		for range r.Intn(max(2, most)) {
			script = append(script, busyEvent(r, pages))
		}
		script = append(script, step)
	}
	for range most {
		script = append(script, busyEvent(r, pages))
	}
	return script
}

type runTally struct {
	old, fresh, faults, stays int
	frees, cached, again      int
}

func (y *runTally) note(c change, script []impl.Event, saw []impl.Seen) {
	for _, s := range saw {
		switch {
		case c.isOld(s):
			y.old++
		case c.isNew(s):
			y.fresh++
		case s.Kind == impl.KFault:
			y.faults++
		default:
			y.stays++
		}
	}
	at := c.first(impl.OTlbi)
	if at < 0 {
		return
	}
	held := map[int]int{}
	for _, e := range c.machineBefore(script, at).Wc {
		held[e.Table]++
	}
	for _, op := range c.ops {
		switch {
		case op.Kind == impl.OFree:
			y.frees++
			y.cached += min(1, held[op.A])
			held[op.A] = -1
		case op.Kind == impl.OWrite && held[op.A/16] == -1:
			y.again++
		}
	}
}

// Promises 11 to 15.
func TestRunsWhateverHappens(t *testing.T) {
	r := rand.New(rand.NewSource(55))
	var y runTally
	for range 400 {
		c := anyChange(t, r)
		for range 3 {
			script := c.busyScript(r, 9000)
			wrong, o := c.wrong(script)
			if wrong != "" {
				t.Fatalf("%q to %q in %d frames: %s", c.a, c.b, c.frames, wrong)
			}
			y.note(c, script, o.Seen)
		}
	}
	if min(y.old, y.fresh, y.faults, y.stays) < 5000 || y.frees < 500 || y.cached < 100 || y.again < 500 {
		t.Errorf("too few of some: %+v", y)
	}
}

func eventLine(e impl.Event) string {
	n := strconv.Itoa
	switch e.Kind {
	case impl.EFill:
		return "fill " + n(e.Page) + " " + n(e.Choice)
	case impl.EDrop:
		return "drop " + n(e.Choice)
	case impl.EForget:
		return "forget " + n(e.Choice)
	case impl.EAccess:
		return []string{1: "read ", 2: "write ", 4: "fetch "}[e.Need] + n(e.Page) + " " + n(e.Choice)
	}
	return "step"
}

func scriptText(script []impl.Event) string {
	var b strings.Builder
	for _, e := range script {
		b.WriteString(eventLine(e) + "\n")
	}
	return b.String()
}

// Promise 17, and that Run is Exec with the same events.
func TestRunsEndAlike(t *testing.T) {
	r := rand.New(rand.NewSource(56))
	for range 150 {
		c := anyChange(t, r)
		for _, script := range [][]impl.Event{nil, c.busyScript(r, 2000), c.busyScript(r, 3500)[:50], {step, step}} {
			text := scriptText(script)
			got := impl.Run(c.a, c.b, c.frames, text)
			o := impl.Exec(impl.Machine{Mem: c.mem}, c.ops, script)
			want := impl.Report{At: len(c.ops), Ops: c.ops, Seen: o.Seen, Final: c.now}
			if !sameReport(got, want) {
				t.Fatalf("%q to %q in %d frames: code %d at %d, or another report", c.a, c.b, c.frames, got.Code, got.At)
			}
		}
		now, _ := impl.ReadPolicy(c.b)
		for page, hit := range c.now {
			if got := impl.At(now, page); got != hit {
				t.Fatalf("the new policy says %v of page %d, which ends as %v", got, page, hit)
			}
		}
	}
}

// dropNth takes one operation of a kind out, if there are that many.
func dropNth(ops []impl.Op, kind int, n int) []impl.Op {
	for i, op := range ops {
		if op.Kind == kind {
			if n == 0 {
				return slices.Delete(slices.Clone(ops), i, i+1)
			}
			n--
		}
	}
	return ops
}

type spoiltProgram struct {
	name  string
	spoil func(ops []impl.Op) []impl.Op
}

// spoiltPrograms leave out one thing each that the promises need.
func spoiltPrograms() []spoiltProgram {
	without := func(gone func(op impl.Op) bool) func(ops []impl.Op) []impl.Op {
		return func(ops []impl.Op) []impl.Op { return slices.DeleteFunc(slices.Clone(ops), gone) }
	}
	nth := func(kind int, n int) func(ops []impl.Op) []impl.Op {
		return func(ops []impl.Op) []impl.Op { return dropNth(ops, kind, n) }
	}
	tooSoon := func(ops []impl.Op) []impl.Op {
		i := slices.IndexFunc(ops, func(op impl.Op) bool { return op.Kind == impl.OFree })
		if i < 0 {
			return ops
		}
		return slices.Insert(slices.Delete(slices.Clone(ops), i, i+1), 0, ops[i])
	}
	return []spoiltProgram{
		{"no breaks", without(func(op impl.Op) bool { return op.Kind == impl.OWrite && op.Word == 0 })},
		{"no invalidations", without(func(op impl.Op) bool { return op.Kind == impl.OTlbi })},
		{"no first run", nth(impl.OTlbi, 0)},
		{"no second run", nth(impl.OTlbi, 1)},
		{"no barriers", without(func(op impl.Op) bool { return op.Kind == impl.ODsb })},
		{"no first barrier", nth(impl.ODsb, 0)},
		{"no second barrier", nth(impl.ODsb, 1)},
		{"no third barrier", nth(impl.ODsb, 2)},
		{"no fourth barrier", nth(impl.ODsb, 3)},
		{"a free too soon", tooSoon},
	}
}

// The scripts are hard enough: each thing that is left out shows.
func TestScriptsShowWhatIsMissing(t *testing.T) {
	r := rand.New(rand.NewSource(57))
	shown := map[string]int{}
	for range 300 {
		c := anyChange(t, r)
		for _, row := range spoiltPrograms() {
			bad := c
			bad.ops = row.spoil(c.ops)
			if wrong, _ := bad.wrong(c.busyScript(r, 3000)); wrong != "" {
				shown[row.name]++
			}
		}
	}
	for _, row := range spoiltPrograms() {
		if shown[row.name] < 3 {
			t.Errorf("%s: shows in %d runs", row.name, shown[row.name])
		}
	}
}

// The greatest programs there are, within MaxOps and MaxPend, must end and end
// soon.
func TestRunsGreatest(t *testing.T) {
	all := "object x 4096 at 0; object y 4096 at 4096; region 0 "
	evens := func(perms string) string {
		pages := make([]modelPage, 4096)
		for page := 0; page < 800; page += 2 {
			pages[page] = modelPage{out: page, perm: modelPerm(perms), mapped: true}
		}
		return policyText(pages)
	}
	texts := []string{all + "x r;", all + "x rwx;", all + "y r;", all + "x r huge;", all + "y w huge;", evens("r"), evens("x"), ""}
	r := rand.New(rand.NewSource(58))
	longest := 0
	for _, a := range texts {
		for _, b := range texts {
			c := changeOf(t, a, b, 0)
			longest = max(longest, len(c.ops))
			script := c.busyScript(r, 3000)
			script = script[:min(len(script), impl.MaxEvents)]
			if wrong, _ := c.wrong(script); wrong != "" {
				t.Fatalf("%.60q to %.60q: %s", a, b, wrong)
			}
		}
	}
	if longest != 4096+1+1+1+4096+1 {
		t.Errorf("%d operations at the most", longest)
	}
}

// moment is a state of a run: the machine, how many operations have been made,
// and a bit for each page that was seen as it is to be.
type moment struct {
	m     impl.Machine
	at    int
	fresh int
}

// search goes through all states to which any script leads that speaks of these
// pages alone.
type search struct {
	t     *testing.T
	c     change
	pages []int
	needs []int
	known map[string]bool
	queue []moment
}

// reach notes a state. The order of the TLB says nothing, so states that differ
// in it alone count once.
func (x *search) reach(s moment) {
	slices.SortFunc(s.m.Tlb, func(a, b impl.Tlb) int {
		return strings.Compare(fmt.Sprint(a), fmt.Sprint(b))
	})
	// Mem and Pend are those of the program up to here
	key := fmt.Sprint(s.at, s.fresh, s.m.Tlb, s.m.Wc)
	if !x.known[key] {
		x.known[key] = true
		x.queue = append(x.queue, s)
	}
}

func (x *search) step(s moment) {
	x.t.Helper()
	if s.at == len(x.c.ops) {
		if wrong := x.c.wrongEnd(s.m); wrong != "" {
			x.t.Fatal(wrong)
		}
		return
	}
	op := x.c.ops[s.at]
	if op.Kind == impl.OFree && modelFreeCode(&s.m, op.A) != 0 {
		x.t.Fatalf("frame %d is freed while it is in use", op.A)
	}
	next, code := impl.Step(s.m, op)
	if code != 0 {
		x.t.Fatalf("code %d at %d", code, s.at)
	}
	x.reach(moment{next, s.at + 1, s.fresh})
}

func (x *search) access(s moment, bit int, need int, choice int) {
	x.t.Helper()
	m, saw := impl.Access(s.m, x.pages[bit], need, choice)
	if wrong := x.c.wrongSight(saw); wrong != "" {
		x.t.Fatal(wrong)
	}
	if s.fresh>>bit&1 == 1 && x.c.isOld(saw) {
		x.t.Fatalf("%v is old, though the new was seen", saw)
	}
	if x.c.isNew(saw) {
		s.fresh |= 1 << bit
	}
	x.reach(moment{m, s.at, s.fresh})
}

func (x *search) all() int {
	x.t.Helper()
	x.known = map[string]bool{}
	x.reach(moment{m: impl.Machine{Mem: x.c.mem}})
	states := 0
	for ; len(x.queue) > 0; states++ {
		s := x.queue[len(x.queue)-1]
		x.queue = x.queue[:len(x.queue)-1]
		x.step(s)
		for i := range s.m.Tlb {
			x.reach(moment{impl.Drop(s.m, 0, i), s.at, s.fresh})
		}
		for i := range s.m.Wc {
			x.reach(moment{impl.Drop(s.m, 1, i), s.at, s.fresh})
		}
		for bit := range x.pages {
			for _, need := range x.needs {
				for choice := range 256 {
					x.access(s, bit, need, choice)
				}
			}
		}
	}
	return states
}

// Promises 11 to 15 for all scripts there are, of a page or two.
func TestRunsAllStates(t *testing.T) {
	x1, x16 := "object x 1 at 7; ", "object x 16 at 32; "
	xy := x16 + "object y 16 at 48; "
	rows := []struct {
		name, a, b string
		pages      []int
		needs      []int
	}{
		{"a page moves", x1 + "region 5 x r;", "object x 1 at 9; region 5 x r;", []int{5, 6}, []int{1}},
		{"a page's permissions", x1 + "region 5 x rw;", x1 + "region 5 x rx;", []int{5}, []int{1, 2, 4}},
		{"a page comes beside another", x1 + "region 5 x r;", "object x 1 at 7 shared; region 5 x r; region 8 x r;", []int{5, 8}, []int{1}},
		{"a page goes beside another", "object x 2 at 7; region 5 x r;", x1 + "region 5 x r;", []int{5, 6}, []int{1}},
		{"two pages change places", "object x 1 at 7; object y 1 at 9; region 5 x r; region 7 y r;", "object x 1 at 7; object y 1 at 9; region 5 y r; region 7 x r;", []int{5, 7}, []int{1}},
		{"pages become a block", x16 + "region 16 x r;", x16 + "region 16 x r huge;", []int{18, 31}, []int{1}},
		{"a block becomes pages", x16 + "region 16 x r huge;", x16 + "region 16 x r;", []int{18, 31}, []int{1}},
		{"a block moves", x16 + "region 16 x r huge;", "object x 16 at 64; region 16 x r huge;", []int{16, 31}, []int{1}},
		{"a block loses a page", x16 + "region 16 x r huge;", "object x 15 at 32; region 16 x r huge;", []int{30, 31}, []int{1}},
		{"all goes", x1 + "region 5 x r;", "", []int{5, 6}, []int{1}},
		{"all comes", "", x1 + "region 5 x r;", []int{5, 6}, []int{1}},
		{"the frames are taken for other pages", x1 + "region 4095 x r;", x1 + "region 5 x r;", []int{4095, 5}, []int{1}},
		{"the frame is taken for another group", x1 + "region 5 x r;", x1 + "region 21 x r;", []int{5, 21}, []int{1}},
		{"a block and a table change places", xy + "region 16 x r huge; region 32 y r;", xy + "region 16 x r; region 32 y r huge;", []int{16, 32}, []int{1}},
	}
	for _, row := range rows {
		t.Run(row.name, func(t *testing.T) {
			x := &search{t: t, c: changeOf(t, row.a, row.b, 0), pages: row.pages, needs: row.needs}
			if n := x.all(); n < 20 {
				t.Errorf("%d states only", n)
			}
		})
	}
}
