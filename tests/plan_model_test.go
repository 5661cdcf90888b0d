package tests

import (
	"cmp"
	"math/rand"
	"slices"
	"testing"

	"loop.example/s0047/impl"
)

// Chapter 5's program once more, as plainly as can be: every page is asked for
// by itself, and what the program finds in order is sorted here.

type modelSeat struct {
	level int
	page  int
}

type modelEntry struct {
	modelSeat
	addr  int
	pages int
	old   uint64
	right uint64
}

func (e modelEntry) broken() bool {
	return e.old%2 == 1 && e.old != e.right
}

func (e modelEntry) linked() bool {
	return e.right != 0 && e.old != e.right
}

func modelHits(pages []modelPage) []impl.Hit {
	hits := make([]impl.Hit, 4096)
	for page := range hits {
		hits[page] = modelHit(pages, page)
	}
	return hits
}

func modelNeeds(hits []impl.Hit, at modelSeat) bool {
	for _, h := range hits[at.page : at.page+[]int{0, 4096, 256, 16}[at.level]] {
		if h.Kind == impl.KOk && (at.level != 3 || h.Size == 1) {
			return true
		}
	}
	return at.level == 1
}

func modelNeeded(hits []impl.Hit) []modelSeat {
	seats := []modelSeat{{1, 0}}
	for page := 0; page < 4096; page += 16 {
		if at := (modelSeat{2, page}); page%256 == 0 && modelNeeds(hits, at) {
			seats = append(seats, at)
		}
		if at := (modelSeat{3, page}); modelNeeds(hits, at) {
			seats = append(seats, at)
		}
	}
	return seats
}

// modelTables are the tables that a plan is about, each list in its order.
type modelTables struct {
	kept    []placeRow
	created []placeRow
	retired []int
	frames  map[modelSeat]int
}

func modelTablesOf(words []uint64, hits []impl.Hit) modelTables {
	x := modelTables{frames: map[modelSeat]int{}}
	used := map[int]int{}
	for _, p := range modelPlaces(words) {
		at := modelSeat{p.Level, p.Page}
		if !modelNeeds(hits, at) {
			x.retired = append(x.retired, p.Frame)
			continue
		}
		x.kept = append(x.kept, p)
		x.frames[at] = p.Frame
		used[p.Frame]++
	}
	slices.Sort(x.retired)
	for _, at := range modelNeeded(hits) {
		if _, kept := x.frames[at]; kept {
			continue
		}
		frame := 0
		for used[frame] > 0 {
			frame++
		}
		used[frame]++
		x.frames[at] = frame
		x.created = append(x.created, placeRow{Frame: frame, Level: at.level, Page: at.page})
	}
	return x
}

func (x modelTables) right(hits []impl.Hit, at modelSeat) uint64 {
	h := hits[at.page]
	frame, below := x.frames[modelSeat{at.level + 1, at.page}]
	switch {
	case at.level == 2 && h.Size == 16:
		return wordOf(0, h.Perm, h.Out)
	case at.level == 3 && h.Kind == impl.KOk:
		return wordOf(1, h.Perm, h.Out)
	case below:
		return tableWord(frame)
	}
	return 0
}

func (x modelTables) entries(words []uint64, hits []impl.Hit, tables []placeRow) []modelEntry {
	var list []modelEntry
	for _, p := range tables {
		for i := range 16 {
			pages := []int{0, 256, 16, 1}[p.Level]
			at := modelSeat{p.Level, p.Page + i*pages}
			addr := p.Frame*16 + i
			list = append(list, modelEntry{modelSeat: at, addr: addr, pages: pages, old: words[addr], right: x.right(hits, at)})
		}
	}
	return list
}

func modelRuns(covered []bool) []impl.Op {
	var ops []impl.Op
	for page, c := range covered {
		switch {
		case !c:
		case page > 0 && covered[page-1]:
			ops[len(ops)-1].B++
		default:
			ops = append(ops, tlbi(page, 1))
		}
	}
	return ops
}

// modelProgram takes a tree with enough frames.
func modelProgram(words []uint64, hits []impl.Hit) []impl.Op {
	x := modelTablesOf(words, hits)
	kept := x.entries(words, hits, x.kept)
	slices.SortStableFunc(kept, func(a, b modelEntry) int {
		return cmp.Or(cmp.Compare(a.page, b.page), cmp.Compare(a.level, b.level))
	})
	var breaks, frees, fills, links []impl.Op
	covered := make([]bool, 4096)
	for _, e := range kept {
		if e.broken() {
			breaks = append(breaks, write(e.addr, 0))
			for i := range e.pages {
				covered[e.page+i] = true
			}
		}
		if e.linked() {
			links = append(links, write(e.addr, e.right))
		}
	}
	for _, frame := range x.retired {
		frees = append(frees, free(frame))
	}
	for _, e := range x.entries(words, hits, x.created) {
		fills = append(fills, write(e.addr, e.right))
	}
	var ops []impl.Op
	for _, part := range [][]impl.Op{breaks, modelRuns(covered)} {
		if len(breaks) > 0 {
			ops = append(append(ops, part...), dsb)
		}
	}
	ops = append(ops, frees...)
	for _, part := range [][]impl.Op{fills, links} {
		if len(part) > 0 {
			ops = append(append(ops, part...), dsb)
		}
	}
	return ops
}

// pagesOfTree lays a tree out page by page: spans for which nothing changes.
func pagesOfTree(m impl.Mem) []modelPage {
	pages := make([]modelPage, 4096)
	for page, h := range allWalks(m) {
		if h.Kind == impl.KOk {
			pages[page] = modelPage{out: h.Out, perm: h.Perm, huge: h.Size == 16, mapped: true}
		}
	}
	return pages
}

// bendGroup changes what pages say of one group.
func bendGroup(r *rand.Rand, pages []modelPage, first int) {
	group := pages[first : first+16]
	perm, out := 1+r.Intn(7), r.Intn(4096)*16
	switch r.Intn(9) {
	case 0:
		clear(group)
	case 1, 2:
		for i := range group {
			group[i] = modelPage{out: out + i, perm: perm, huge: true, mapped: true}
		}
	case 3:
		for i := range group {
			group[i] = modelPage{out: out + i, perm: perm, mapped: true}
		}
	case 4, 5:
		for i := range group {
			group[i].huge = !group[i].huge && group[i].mapped
		}
	case 6:
		for i := range group {
			group[i].perm = perm
		}
	default:
		for range 1 + r.Intn(4) {
			group[r.Intn(16)] = pick(r, []modelPage{{}, {out: out, perm: perm, mapped: true}})
		}
	}
	for i := range group {
		if !group[i].mapped {
			group[i] = modelPage{}
		}
	}
}

// bendPages changes some groups, more often those near what is mapped, and now
// and then 256 pages at once.
func bendPages(r *rand.Rand, pages []modelPage) []modelPage {
	bent := slices.Clone(pages)
	var mapped []int
	for page := 0; page < 4096; page += 16 {
		if slices.ContainsFunc(pages[page:page+16], func(p modelPage) bool { return p.mapped }) {
			mapped = append(mapped, page, min(page+16, 4080), max(page-16, 0))
		}
	}
	for range r.Intn(12) {
		first := r.Intn(256) * 16
		if len(mapped) > 0 && r.Intn(4) > 0 {
			first = pick(r, mapped)
		}
		if r.Intn(10) == 0 {
			clear(bent[first/256*256 : first/256*256+256])
		}
		bendGroup(r, bent, first)
	}
	return bent
}

// anyTree has words that are invalid but not 0, tables without a mapped page
// and, in frames that nothing leads to, words of any kind.
func anyTree(r *rand.Rand, frames int) impl.Mem {
	m := anyMem(r, frames, 0)
	reached := map[int]int{}
	for _, p := range modelPlaces(m.Words) {
		reached[p.Frame]++
		if p.Level == 3 && r.Intn(6) == 0 {
			clear(m.Words[p.Frame*16 : p.Frame*16+16])
		}
	}
	for i := range m.Words {
		if reached[i/16] == 0 && r.Intn(2) == 0 {
			m.Words[i] = anyWord(r, 1, frames, 100)
		}
	}
	return m
}

// planBoth holds Plan against the model, and against its arguments: not changed
// and not shared.
func planBoth(t *testing.T, m impl.Mem, s []impl.Span, hits []impl.Hit) ([]impl.Op, int) {
	t.Helper()
	var want []impl.Op
	wantCode := 0
	if len(modelNeeded(hits)) > len(m.Words)/16 {
		wantCode = 3
	} else {
		want = modelProgram(m.Words, hits)
	}
	checkPlan(t, "any tree", m, s, wantCode, want...)
	return want, wantCode
}

type planTally struct {
	codes                        [4]int
	breaks, frees, fills, links  int
	again, empty, stays, invalid int
}

func (y *planTally) note(m impl.Mem, hits []impl.Hit, ops []impl.Op) {
	x := modelTablesOf(m.Words, hits)
	for _, p := range x.created {
		if slices.Contains(x.retired, p.Frame) {
			y.again++
		}
	}
	for _, e := range x.entries(m.Words, hits, x.kept) {
		switch {
		case e.broken():
			y.breaks++
		case e.linked() && e.old != 0:
			y.invalid++
		case e.linked():
			y.links++
		}
	}
	y.frees += len(x.retired)
	y.fills += len(x.created)
	if len(ops) == 0 {
		y.empty++
	}
	if len(m.Words)/16 > len(x.frames) {
		y.stays++
	}
}

func TestPlanAgainstModel(t *testing.T) {
	r := rand.New(rand.NewSource(51))
	var y planTally
	for i := range 1500 {
		m := anyTree(r, 1+r.Intn(2+i%50))
		pages := pagesOfTree(m)
		if i%7 == 0 {
			pages = pagesOfTree(anyTree(r, 1+r.Intn(40)))
		}
		pages = bendPages(r, pages)
		hits := modelHits(pages)
		ops, code := planBoth(t, m, modelSpans(pages), hits)
		y.codes[code]++
		if code == 0 {
			y.note(m, hits, ops)
			checkPlanned(t, m, hits, ops)
		}
	}
	if y.codes[0] < 200 || y.codes[3] < 200 || min(y.breaks, y.frees, y.fills, y.links, y.again, y.invalid) < 200 || y.empty < 20 || y.stays < 100 {
		t.Errorf("too few of some: %+v", y)
	}
}

// checkPlanned asks for promises 9 and 16 of a program that stands word for word.
func checkPlanned(t *testing.T, m impl.Mem, hits []impl.Hit, ops []impl.Op) {
	t.Helper()
	o := impl.Exec(impl.Machine{Mem: m}, ops, nil)
	if o.Code != 0 || o.At != len(ops) || len(o.Final.Pend) > 0 {
		t.Fatalf("the program ends with code %d at %d of %d, %d writes pending: %v", o.Code, o.At, len(ops), len(o.Final.Pend), ops)
	}
	if got := allWalks(o.Final.Mem); !slices.Equal(got, hits) {
		t.Fatalf("the program leaves other mappings than the spans': %v", ops)
	}
	before, _ := impl.Places(m)
	after, tree := impl.Places(o.Final.Mem)
	if !tree || len(after) != len(modelNeeded(hits)) {
		t.Fatalf("tree %t, %d tables left, %d needed", tree, len(after), len(modelNeeded(hits)))
	}
	checkOthersStay(t, m, o.Final.Mem, after)
	checkBounds(t, ops, allWalks(m), hits, before, after)
}

// checkOthersStay: frames that are no table now, retired ones too, keep their
// words.
func checkOthersStay(t *testing.T, m impl.Mem, final impl.Mem, after []placeRow) {
	t.Helper()
	tables := map[int]int{}
	for _, p := range after {
		tables[p.Frame]++
	}
	for i, w := range m.Words {
		if tables[i/16] == 0 && final.Words[i] != w {
			t.Fatalf("word %d, of no table, became %#x from %#x", i, final.Words[i], w)
		}
	}
}

func seatsOf(places []placeRow) map[modelSeat]int {
	seats := map[modelSeat]int{}
	for _, p := range places {
		seats[modelSeat{p.Level, p.Page}]++
	}
	return seats
}

// missing counts the seats of a that b has not.
func missing(a []placeRow, b []placeRow) int {
	have, n := seatsOf(b), 0
	for at := range seatsOf(a) {
		if have[at] == 0 {
			n++
		}
	}
	return n
}

// Promise 16.
func checkBounds(t *testing.T, ops []impl.Op, old []impl.Hit, now []impl.Hit, before []placeRow, after []placeRow) {
	t.Helper()
	changed := 0
	for page := range old {
		if old[page] != now[page] {
			changed++
		}
	}
	count := map[int]int{}
	for _, op := range ops {
		count[op.Kind]++
		for page := op.A; op.Kind == impl.OTlbi && page < op.A+op.B; page++ {
			if old[page] == now[page] && old[page].Kind == impl.KOk {
				t.Fatalf("%v covers page %d, which stays %v", op, page, old[page])
			}
		}
	}
	created, retired := missing(after, before), missing(before, after)
	if limit := 2*changed + created + retired + 16*created; count[impl.OWrite] > limit || count[impl.ODsb] > 4 {
		t.Fatalf("%d writes, at most %d; %d barriers, at most 4: %v", count[impl.OWrite], limit, count[impl.ODsb], ops)
	}
	if count[impl.OFree] != retired {
		t.Fatalf("%d tables freed, %d retired", count[impl.OFree], retired)
	}
}

// withoutEmptyTables breaks the entries that lead to no mapped page.
func withoutEmptyTables(m impl.Mem) impl.Mem {
	hits := allWalks(m)
	for _, p := range modelPlaces(m.Words) {
		span := []int{0, 256, 16, 1}[p.Level]
		for i := range 16 {
			first := p.Page + i*span
			if !slices.ContainsFunc(hits[first:first+span], func(h impl.Hit) bool { return h.Kind == impl.KOk }) {
				m.Words[p.Frame*16+i] &^= 1
			}
		}
	}
	return m
}

// Promise 10, and what the program is if a table is without a mapped page.
func TestPlanOfWhatIsThere(t *testing.T) {
	r := rand.New(rand.NewSource(52))
	mapped, emptied := 0, 0
	for range 600 {
		m := anyTree(r, 1+r.Intn(60))
		s := modelSpans(pagesOfTree(m))
		if impl.TablesNeeded(s) > len(m.Words)/16 {
			t.Fatalf("a tree of %d frames needs %d", len(m.Words)/16, impl.TablesNeeded(s))
		}
		ops, code := impl.Plan(m, s)
		if code != 0 || !slices.Equal(ops, modelProgram(m.Words, allWalks(m))) {
			t.Fatalf("code %d, %v", code, ops)
		}
		if len(ops) > 0 {
			emptied++
		}
		checkPlan(t, "nothing to do", withoutEmptyTables(m), s, 0)
		mapped += len(s)
	}
	if mapped < 1000 || emptied < 100 {
		t.Errorf("%d spans, %d trees with empty tables", mapped, emptied)
	}
}
