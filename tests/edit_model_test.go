package tests

import (
	"math/rand"
	"slices"
	"testing"

	"loop.example/s0047/impl"
)

// Chapter 3 once more, as plainly as can be: every page is looked at by itself,
// and all places are heard before a code is given.

func modelLatest(m *impl.Machine) []uint64 {
	words := slices.Clone(m.Mem.Words)
	for _, w := range m.Pend {
		words[w.Addr] = w.Word
	}
	return words
}

func modelPlaces(words []uint64) []placeRow {
	frames := len(words) / 16
	found := []placeRow{topPlace}
	for i := range 16 {
		mid := modelDesc(1, words[i])
		if mid.Kind != impl.DTable || mid.Out >= frames {
			continue
		}
		found = append(found, placeRow{Frame: mid.Out, Level: 2, Page: 256 * i})
		for j := range 16 {
			last := modelDesc(2, words[mid.Out*16+j])
			if last.Kind == impl.DTable && last.Out < frames {
				found = append(found, placeRow{Frame: last.Out, Level: 3, Page: 256*i + 16*j})
			}
		}
	}
	return found
}

func modelFormed(m *impl.Machine, op impl.Op) bool {
	words := len(m.Mem.Words)
	switch op.Kind {
	case impl.OWrite:
		return op.A >= 0 && op.A < words && op.B == 0 && len(m.Pend) < 10000
	case impl.ODsb:
		return op == impl.Op{Kind: impl.ODsb}
	case impl.OTlbi:
		return op.A >= 0 && op.A <= 4095 && op.B >= 1 && op.B <= 4096 && op.A+op.B <= 4096 && op.Word == 0
	case impl.OFree:
		return op.A >= 0 && op.A < words/16 && op.B == 0 && op.Word == 0
	}
	return false
}

func tlbCovers(e impl.Tlb, page int) bool {
	return page >= e.Page && page < e.Page+e.Size
}

func wcCovers(e impl.Wc, page int) bool {
	return page >= e.Page && page < e.Page+map[int]int{2: 256, 3: 16}[e.Level]
}

func modelCached(m *impl.Machine, level int, page int) bool {
	for _, e := range m.Tlb {
		if tlbCovers(e, page) {
			return true
		}
	}
	for _, e := range m.Wc {
		if e.Level > level && wcCovers(e, page) {
			return true
		}
	}
	return false
}

func modelWriteCode(m *impl.Machine, op impl.Op) int {
	if op.Word%2 == 0 {
		return 0
	}
	latest := modelLatest(m)
	codes := map[int]int{}
	for _, p := range modelPlaces(latest) {
		if p.Frame != op.A/16 {
			continue
		}
		old := latest[op.A]
		if old%2 == 1 && old != op.Word {
			codes[2]++
		}
		span := []int{0, 256, 16, 1}[p.Level]
		for i := range span {
			if old%2 == 0 && modelCached(m, p.Level, p.Page+op.A%16*span+i) {
				codes[3]++
			}
		}
	}
	switch {
	case codes[2] > 0:
		return 2
	case codes[3] > 0:
		return 3
	}
	return 0
}

func modelFreeCode(m *impl.Machine, frame int) int {
	held := frame == 0
	for _, p := range slices.Concat(modelPlaces(m.Mem.Words), modelPlaces(modelLatest(m))) {
		held = held || p.Frame == frame
	}
	for _, e := range m.Wc {
		held = held || e.Table == frame
	}
	if held {
		return 4
	}
	return 0
}

func modelDsb(m *impl.Machine) {
	m.Mem.Words = modelLatest(m)
	m.Pend = nil
	var tlb []impl.Tlb
	for _, e := range m.Tlb {
		if !e.Doomed {
			tlb = append(tlb, e)
		}
	}
	var wc []impl.Wc
	for _, e := range m.Wc {
		if !e.Doomed {
			wc = append(wc, e)
		}
	}
	m.Tlb, m.Wc = tlb, wc
}

func modelTlbi(m *impl.Machine, first int, pages int) {
	for page := first; page < first+pages; page++ {
		for i, e := range m.Tlb {
			m.Tlb[i].Doomed = e.Doomed || tlbCovers(e, page)
		}
		for i, e := range m.Wc {
			m.Wc[i].Doomed = e.Doomed || wcCovers(e, page)
		}
	}
}

// modelStep changes the machine, which must own its lists.
func modelStep(m *impl.Machine, op impl.Op) int {
	code := 0
	switch {
	case !modelFormed(m, op):
		return 1
	case op.Kind == impl.OWrite:
		code = modelWriteCode(m, op)
		if code == 0 {
			m.Pend = append(m.Pend, impl.Write{Addr: op.A, Word: op.Word})
		}
	case op.Kind == impl.ODsb:
		modelDsb(m)
	case op.Kind == impl.OTlbi:
		modelTlbi(m, op.A, op.B)
	case op.Kind == impl.OFree:
		code = modelFreeCode(m, op.A)
	}
	return code
}

// modelExec takes a valid machine and well formed events in lawful numbers.
func modelExec(m impl.Machine, ops []impl.Op, script []impl.Event) impl.Outcome {
	m = cloneMachine(m)
	var seen []impl.Seen
	at := 0
	for len(script) > 0 || at < len(ops) {
		event := impl.Event{Kind: impl.EStep}
		if len(script) > 0 {
			event, script = script[0], script[1:]
		}
		switch event.Kind {
		case impl.EStep:
			if at == len(ops) {
				continue
			}
			if code := modelStep(&m, ops[at]); code != 0 {
				return impl.Outcome{Code: code, At: at, Final: m, Seen: seen}
			}
			at++
		case impl.EFill:
			modelWalk(&m, event.Page, event.Choice)
		case impl.EDrop:
			modelDrop(&m, 0, event.Choice)
		case impl.EForget:
			modelDrop(&m, 1, event.Choice)
		case impl.EAccess:
			seen = append(seen, modelAccess(&m, event.Page, event.Need, event.Choice))
		}
	}
	return impl.Outcome{At: at, Final: m, Seen: seen}
}

func sameOutcome(a impl.Outcome, b impl.Outcome) bool {
	return a.Code == b.Code && a.At == b.At && sameMachine(a.Final, b.Final) && slices.Equal(a.Seen, b.Seen)
}

// anyAddr is mostly a word that a walk for one of the pages reads.
func anyAddr(r *rand.Rand, m *impl.Machine, pages []int) int {
	if r.Intn(4) == 0 {
		return r.Intn(len(m.Mem.Words))
	}
	page := pages[r.Intn(len(pages))]
	var read []int
	for _, p := range modelPlaces(modelLatest(m)) {
		if size := []int{0, 4096, 256, 16}[p.Level]; page/size*size == p.Page {
			read = append(read, p.Frame*16+modelIndex(p.Level, page))
		}
	}
	return read[r.Intn(len(read))]
}

func anyWrite(r *rand.Rand, m *impl.Machine, pages []int) impl.Op {
	addr := anyAddr(r, m, pages)
	old := modelLatest(m)[addr]
	frames := len(m.Mem.Words) / 16
	words := []uint64{0, old, old &^ 1, tableWord(r.Intn(frames)), tableWord(r.Intn(frames)), anyWord(r, 2, frames, 30), anyWord(r, 3, frames, 30), r.Uint64()}
	return impl.Op{Kind: impl.OWrite, A: addr, Word: words[r.Intn(len(words))]}
}

func anyOp(r *rand.Rand, m *impl.Machine, pages []int) impl.Op {
	page := pages[r.Intn(len(pages))]
	switch r.Intn(10) {
	case 0, 1, 2, 3, 4:
		return anyWrite(r, m, pages)
	case 5, 6:
		return impl.Op{Kind: impl.ODsb}
	case 7:
		return impl.Op{Kind: impl.OTlbi, A: page, B: 1 + r.Intn(min(40, 4096-page))}
	case 8:
		return impl.Op{Kind: impl.OFree, A: r.Intn(len(m.Mem.Words) / 16)}
	}
	return impl.Op{Kind: r.Intn(6), A: r.Intn(4200) - 50, B: r.Intn(4) - 1, Word: uint64(r.Intn(2))}
}

type opTally struct {
	codes   [5]int
	kinds   [5]int
	doomed  int
	removed int
}

func (y *opTally) note(op impl.Op, code int, before impl.Machine, after impl.Machine) {
	y.codes[code]++
	if code == 0 {
		y.kinds[op.Kind]++
	}
	y.doomed += countDoomed(&after) - min(countDoomed(&after), countDoomed(&before))
	y.removed += len(before.Tlb) + len(before.Wc) - len(after.Tlb) - len(after.Wc)
}

func countDoomed(m *impl.Machine) int {
	n := 0
	for _, e := range m.Tlb {
		if e.Doomed {
			n++
		}
	}
	for _, e := range m.Wc {
		if e.Doomed {
			n++
		}
	}
	return n
}

// opBoth makes one operation on the program's machine and on the model.
func opBoth(t *testing.T, m impl.Machine, op impl.Op, y *opTally) impl.Machine {
	t.Helper()
	want := cloneMachine(m)
	wantCode := modelStep(&want, op)
	got, code := impl.Step(m, op)
	if code != wantCode || !sameMachine(got, want) {
		t.Fatalf("%v gives code %d and\n%v, want %d and\n%v, from\n%v", op, code, got, wantCode, want, m)
	}
	if !modelValid(&got) {
		t.Fatalf("%v gives no valid machine: %v", op, got)
	}
	if code != 0 && !sameMachine(got, m) {
		t.Fatalf("%v is refused with code %d and changes the machine", op, code)
	}
	if code == 0 && op.Kind == impl.ODsb && (len(got.Pend) > 0 || countDoomed(&got) > 0) {
		t.Fatalf("after a DSB: %v", got)
	}
	y.note(op, code, m, got)
	return got
}

// Promises 3 and 5: operations among the events of chapter 2.
func TestStepAgainstModel(t *testing.T) {
	r := rand.New(rand.NewSource(8))
	var y opTally
	var events tally
	for i := range 2000 {
		mem := anyMem(r, 1+r.Intn(1+i%40), []int{0, 0, 1, 5, 40}[i%5])
		pages := pagesOf(r, mem)
		m := anyMachine(r, mem, pages)
		for range 30 {
			m = opBoth(t, m, anyOp(r, &m, pages), &y)
			if r.Intn(2) == 0 {
				m = stepBoth(t, r, m, pages, &events)
			}
		}
	}
	for code, n := range y.codes {
		if n < 500 {
			t.Errorf("code %d came %d times only", code, n)
		}
	}
	for kind, n := range y.kinds[1:] {
		if n < 500 {
			t.Errorf("kind %d was made %d times only", kind+1, n)
		}
	}
	if y.doomed < 500 || y.removed < 500 {
		t.Errorf("too few of some: %+v", y)
	}
}

// anyProgram keeps, if good is true, to operations that are not refused where
// no event comes between them.
func anyProgram(r *rand.Rand, m impl.Machine, pages []int, good bool) []impl.Op {
	var ops []impl.Op
	at := cloneMachine(m)
	for range r.Intn(50) {
		op := anyOp(r, &at, pages)
		if good && modelStep(&at, op) != 0 {
			continue
		}
		ops = append(ops, op)
	}
	return ops
}

func anyScript(r *rand.Rand, pages []int, steps int) []impl.Event {
	var script []impl.Event
	for range r.Intn(80) {
		e := impl.Event{Kind: r.Intn(5), Page: pages[r.Intn(len(pages))], Choice: r.Intn(65536)}
		switch {
		case e.Kind == impl.EAccess:
			e.Need = 1 << r.Intn(3)
		case e.Kind == impl.EDrop || e.Kind == impl.EForget:
			e.Choice = r.Intn(8)
		case r.Intn(100) < steps:
			e.Kind = impl.EStep
		}
		script = append(script, e)
	}
	return script
}

func countSteps(script []impl.Event) int {
	n := 0
	for _, e := range script {
		if e.Kind == impl.EStep {
			n++
		}
	}
	return n
}

func TestExecAgainstModel(t *testing.T) {
	r := rand.New(rand.NewSource(9))
	codes := map[int]int{}
	amid, behind, idle := 0, 0, 0
	for i := range 4000 {
		mem := anyMem(r, 1+r.Intn(1+i%30), []int{0, 0, 0, 2, 20}[i%5])
		pages := pagesOf(r, mem)
		m := anyMachine(r, mem, pages)
		ops := anyProgram(r, m, pages, i%4 > 0)
		script := anyScript(r, pages, i%100)
		got, want := impl.Exec(m, ops, script), modelExec(m, ops, script)
		if !sameOutcome(got, want) {
			t.Fatalf("outcome\n%v, want\n%v, of\n%v\n%v\n%v", got, want, m, ops, script)
		}
		codes[got.Code]++
		switch steps := countSteps(script); {
		case got.Code == 0 && steps > len(ops):
			idle++
		case got.Code != 0 && got.At < steps:
			amid++
		case got.Code != 0:
			behind++
		}
	}
	if codes[0] < 100 || codes[1] < 50 || codes[2] < 50 || codes[3] < 50 || codes[4] < 50 || amid < 50 || behind < 50 || idle < 50 {
		t.Errorf("too few of some: %v, %d amid, %d behind the script, %d idle", codes, amid, behind, idle)
	}
}
