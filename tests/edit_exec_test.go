package tests

import (
	"math"
	"slices"
	"testing"

	"loop.example/s0047/impl"
)

var (
	markOp    = impl.Op{Kind: -9, A: -9}
	markEvent = impl.Event{Kind: -9, Page: -9}
	step      = impl.Event{Kind: impl.EStep}
)

func fill(page int, choice int) impl.Event {
	return impl.Event{Kind: impl.EFill, Page: page, Choice: choice}
}

func drop(i int) impl.Event {
	return impl.Event{Kind: impl.EDrop, Choice: i}
}

func forget(i int) impl.Event {
	return impl.Event{Kind: impl.EForget, Choice: i}
}

func access(page int, need int, choice int) impl.Event {
	return impl.Event{Kind: impl.EAccess, Page: page, Need: need, Choice: choice}
}

func seen(page int, need int, kind int, out int) impl.Seen {
	return impl.Seen{Page: page, Need: need, Kind: kind, Out: out}
}

// execArgs are the arguments of one call, with room behind their lists.
type execArgs struct {
	m      impl.Machine
	ops    []impl.Op
	script []impl.Event
}

func (a execArgs) roomy() execArgs {
	return execArgs{roomy(a.m), roomyList(a.ops, markOp), roomyList(a.script, markEvent)}
}

func (a execArgs) stands(was execArgs) bool {
	return sameMachine(a.m, was.m) && slices.Equal(a.ops, was.ops) && slices.Equal(a.script, was.script) &&
		roomStands(a.m) && marksStand(a.ops, markOp) && marksStand(a.script, markEvent)
}

func (a execArgs) spoil() {
	spoil(a.m)
	spoilList(a.ops, impl.Op{Kind: -7})
	spoilList(a.script, impl.Event{Kind: -7})
}

// checkExec also holds the call against its arguments: not changed, not shared.
func checkExec(t *testing.T, name string, m impl.Machine, ops []impl.Op, script []impl.Event, want impl.Outcome) {
	t.Helper()
	was := execArgs{m, ops, script}
	args := was.roomy()
	got := impl.Exec(args.m, args.ops, args.script)
	if !sameOutcome(got, want) {
		t.Fatalf("%s: outcome\n%v, want\n%v", name, got, want)
	}
	if !args.stands(was) {
		t.Fatalf("%s: an argument was changed", name)
	}
	spoil(got.Final)
	spoilList(got.Seen, impl.Seen{Page: -7})
	if !args.stands(was) {
		t.Fatalf("%s: an argument changed with the answer", name)
	}
	got = impl.Exec(args.m, args.ops, args.script)
	args.spoil()
	if !sameOutcome(got, want) {
		t.Fatalf("%s: the answer changed with the arguments", name)
	}
}

func notRun() impl.Outcome {
	return impl.Outcome{Code: 9}
}

func TestExecNothing(t *testing.T) {
	for _, row := range justValid() {
		m := with(busyMachine(), row.spoil)
		checkExec(t, row.name, m, nil, nil, impl.Outcome{Final: m})
	}
}

func TestExecMachineNotValid(t *testing.T) {
	for _, row := range slices.Concat(wrongMemories(), wrongTlbs(), wrongWcs()) {
		m := with(busyMachine(), row.spoil)
		checkExec(t, row.name, m, nil, nil, notRun())
		checkExec(t, row.name, m, []impl.Op{dsb, {}}, []impl.Event{access(516, 1, 128), step, step}, notRun())
	}
}

func TestExecLengths(t *testing.T) {
	m := busyMachine()
	after := cloneMachine(m)
	modelDsb(&after)
	many := func(n int) []impl.Op { return slices.Repeat([]impl.Op{dsb}, n) }
	steps := func(n int) []impl.Event { return slices.Repeat([]impl.Event{step}, n) }
	checkExec(t, "20000 operations", m, many(20000), nil, impl.Outcome{At: 20000, Final: after})
	checkExec(t, "20001 operations", m, many(20001), nil, notRun())
	checkExec(t, "20001 operations, the first ill formed", m, append([]impl.Op{{}}, many(20000)...), nil, notRun())
	checkExec(t, "10000 events", m, nil, steps(10000), impl.Outcome{Final: m})
	checkExec(t, "10001 events", m, nil, steps(10001), notRun())
	checkExec(t, "10001 events, the first refused", m, []impl.Op{{}}, steps(10001), notRun())
	checkExec(t, "both", m, many(20000), steps(10000), impl.Outcome{At: 20000, Final: after})
	read := slices.Repeat([]impl.Event{access(516, 1, 0)}, 10000)
	saw := slices.Repeat([]impl.Seen{seen(516, 1, impl.KOk, 77)}, 10000)
	checkExec(t, "10000 accesses", m, nil, read, impl.Outcome{Final: m, Seen: saw})
}

// wrongEvents has each condition of each kind broken alone.
func wrongEvents() []impl.Event {
	var wrong []impl.Event
	for _, kind := range []int{math.MinInt, -1, 5, 6, math.MaxInt} {
		wrong = append(wrong, impl.Event{Kind: kind}, impl.Event{Kind: kind, Need: 1})
	}
	for kind := impl.EStep; kind <= impl.EAccess; kind++ {
		need := map[int]int{impl.EAccess: 1}[kind]
		for _, page := range oddPages {
			wrong = append(wrong, impl.Event{Kind: kind, Page: page, Need: need})
		}
		for _, choice := range []int{math.MinInt, -1, 65536, 65537, math.MaxInt} {
			wrong = append(wrong, impl.Event{Kind: kind, Need: need, Choice: choice})
		}
		for _, need := range []int{math.MinInt, -4, -2, -1, 0, 1, 2, 3, 4, 5, 6, 7, 8, math.MaxInt} {
			fits := need == 0
			if kind == impl.EAccess {
				fits = need == 1 || need == 2 || need == 4
			}
			if !fits {
				wrong = append(wrong, impl.Event{Kind: kind, Need: need})
			}
		}
	}
	return wrong
}

func TestExecWrongEvents(t *testing.T) {
	m := busyMachine()
	for _, e := range wrongEvents() {
		checkExec(t, "alone", m, nil, []impl.Event{e}, notRun())
		checkExec(t, "the first", m, []impl.Op{dsb}, []impl.Event{e, step}, notRun())
		checkExec(t, "the last", m, []impl.Op{dsb}, []impl.Event{access(516, 1, 0), step, e}, notRun())
		checkExec(t, "behind a step that is refused", m, []impl.Op{{}}, []impl.Event{step, e}, notRun())
	}
}

// The last values that each condition of an event lets through.
func TestExecJustWellFormed(t *testing.T) {
	m := impl.Machine{Mem: memOf(1)}
	for kind := impl.EStep; kind <= impl.EForget; kind++ {
		for _, page := range []int{0, 4095} {
			for _, choice := range []int{0, 65535} {
				checkExec(t, "event", m, nil, []impl.Event{{Kind: kind, Page: page, Choice: choice}}, impl.Outcome{Final: m})
			}
		}
	}
	for _, need := range []int{1, 2, 4} {
		for _, page := range []int{0, 4095} {
			for _, choice := range []int{0, 65535} {
				checkExec(t, "access", m, nil, []impl.Event{access(page, need, choice)}, impl.Outcome{Final: m, Seen: []impl.Seen{seen(page, need, impl.KFault, 0)}})
			}
		}
	}
}

// Page and Choice of a step say nothing, nor does Page of a drop or forget.
func TestExecFieldsThatSayNothing(t *testing.T) {
	m := busyMachine()
	after := cloneMachine(m)
	modelDsb(&after)
	checkExec(t, "step", m, []impl.Op{dsb}, []impl.Event{{Kind: impl.EStep, Page: 516, Choice: 112}}, impl.Outcome{At: 1, Final: after})
	checkExec(t, "drop", m, nil, []impl.Event{{Kind: impl.EDrop, Page: 516, Choice: 1}}, impl.Outcome{Final: impl.Drop(m, 0, 1)})
	checkExec(t, "forget", m, nil, []impl.Event{{Kind: impl.EForget, Page: 516, Choice: 1}}, impl.Outcome{Final: impl.Drop(m, 1, 1)})
}

func TestExecFillAndAccess(t *testing.T) {
	m := machineOf(nil, nil)
	whole := machineOf([]impl.Tlb{tlbPage}, []impl.Wc{wcMid, wcLast})
	checkExec(t, "fill", m, nil, []impl.Event{fill(516, bitsAdd)}, impl.Outcome{Final: whole})
	checkExec(t, "fill asks no TLB", machineOf([]impl.Tlb{{Page: 516, Size: 1, Out: 9, Perm: 2}}, nil), nil, []impl.Event{fill(516, bitTlb|bitAddTlb)}, impl.Outcome{Final: machineOf([]impl.Tlb{{Page: 516, Size: 1, Out: 9, Perm: 2}, tlbPage}, nil)})
	checkExec(t, "access", m, nil, []impl.Event{access(516, 4, bitsAdd)}, impl.Outcome{Final: whole, Seen: []impl.Seen{seen(516, 4, impl.KOk, 77)}})
	script := []impl.Event{access(516, 2, 0), fill(624, 0), access(631, 1, bitAddTlb), access(624, 2, bitTlb), access(0, 1, 0)}
	saw := []impl.Seen{seen(516, 2, impl.KPerm, 0), seen(631, 1, impl.KOk, 55), seen(624, 2, impl.KOk, 48), seen(0, 1, impl.KFault, 0)}
	checkExec(t, "in order", m, nil, script, impl.Outcome{Final: machineOf([]impl.Tlb{{Page: 624, Size: 16, Out: 48, Perm: 3}}, nil), Seen: saw})
	busy := busyMachine()
	put(busy.Mem, 0, 9, 1)
	saw = []impl.Seen{seen(624, 1, impl.KConflict, 0), seen(2304, 1, impl.KBad, 0)}
	checkExec(t, "conflict and bad word", busy, nil, []impl.Event{access(624, 1, bitTlb), access(2304, 1, 0)}, impl.Outcome{Final: busy, Seen: saw})
}

func TestExecDropAndForget(t *testing.T) {
	m := busyMachine()
	for i := range 3 {
		checkExec(t, "drop", m, nil, []impl.Event{drop(i)}, impl.Outcome{Final: impl.Drop(m, 0, i)})
	}
	for i := range 2 {
		checkExec(t, "forget", m, nil, []impl.Event{forget(i)}, impl.Outcome{Final: impl.Drop(m, 1, i)})
	}
	checkExec(t, "none there", m, nil, []impl.Event{drop(3), forget(2), drop(65535), forget(65535), drop(256), forget(256)}, impl.Outcome{Final: m})
	bare := with(m, func(m *impl.Machine) { m.Tlb, m.Wc = nil, nil })
	checkExec(t, "one too many of each", m, nil, []impl.Event{drop(0), drop(0), drop(0), drop(0), forget(1), forget(0), forget(0)}, impl.Outcome{Final: bare})
	last := with(m, func(m *impl.Machine) { m.Tlb = m.Tlb[1:2] })
	checkExec(t, "the others move up", m, nil, []impl.Event{drop(2), drop(0), drop(1)}, impl.Outcome{Final: last})
}

// What a program does step by step, and what the steps behind its end do.
func TestExecSteps(t *testing.T) {
	m := machineOf([]impl.Tlb{tlbPage}, nil)
	made := wordOf(1, 1, 5)
	ops := []impl.Op{write(84, 0), dsb, tlbi(516, 1), dsb, write(84, made), dsb, free(4)}
	final := machineOf(nil, nil)
	put(final.Mem, 5, 4, made)
	read, late, cached := access(516, 1, 0), access(516, 1, bitLate3), access(516, 1, bitTlb)
	script := []impl.Event{read, step, read, late, step, read, cached, step, cached, step, cached, step, read, late, step, read, step, step, step, read}
	old, gone, fresh := seen(516, 1, impl.KOk, 77), seen(516, 1, impl.KFault, 0), seen(516, 1, impl.KOk, 5)
	saw := []impl.Seen{old, old, gone, gone, old, old, gone, gone, fresh, fresh, fresh}
	checkExec(t, "by steps", m, ops, script, impl.Outcome{At: 7, Final: final, Seen: saw})
	checkExec(t, "without a script", m, ops, nil, impl.Outcome{At: 7, Final: final})
	checkExec(t, "the rest after the script", m, ops, script[:7], impl.Outcome{At: 7, Final: final, Seen: saw[:5]})
	checkExec(t, "steps alone", m, nil, []impl.Event{step, step}, impl.Outcome{Final: m})
	for n := range len(ops) + 3 {
		checkExec(t, "some steps", m, ops, slices.Repeat([]impl.Event{step}, n), impl.Outcome{At: 7, Final: final})
		o := impl.Exec(m, ops[:min(n, 7)], nil)
		if o.Code != 0 || o.At != min(n, 7) {
			t.Fatalf("%d operations: code %d at %d", n, o.Code, o.At)
		}
	}
}

// Everything ends at the operation: later events do not happen.
func TestExecRefusedInTheScript(t *testing.T) {
	m := machineOf([]impl.Tlb{tlbPage}, nil)
	ops := []impl.Op{write(83, 2), write(84, wordOf(1, 1, 5)), dsb}
	after := with(m, func(m *impl.Machine) { m.Pend = []impl.Write{{Addr: 83, Word: 2}} })
	read := access(516, 1, bitTlb)
	script := []impl.Event{read, step, read, step, read, drop(0), fill(767, bitsAdd), step}
	saw := []impl.Seen{seen(516, 1, impl.KOk, 77), seen(516, 1, impl.KOk, 77)}
	checkExec(t, "the second operation", m, ops, script, impl.Outcome{Code: 2, At: 1, Final: after, Seen: saw})
	checkExec(t, "the first operation", m, ops[1:], script, impl.Outcome{Code: 2, At: 0, Final: m, Seen: saw[:1]})
	checkExec(t, "the first event", m, ops[1:], script[1:], impl.Outcome{Code: 2, At: 0, Final: m})
	behind := append(slices.Clone(ops), impl.Op{Kind: 77}, impl.Op{})
	checkExec(t, "operations behind it are not looked at", m, behind, script, impl.Outcome{Code: 2, At: 1, Final: after, Seen: saw})
	dropped := with(after, func(m *impl.Machine) { m.Tlb = nil })
	script = []impl.Event{step, read, drop(0), step, step, step}
	checkExec(t, "what happened before it stays", m, ops, script, impl.Outcome{Code: 2, At: 1, Final: dropped, Seen: saw[:1]})
}

// After the script: the machine has all that the script did to it.
func TestExecRefusedAfterTheScript(t *testing.T) {
	m := machineOf(nil, nil)
	read := access(516, 1, bitAddTlb)
	ops := []impl.Op{write(84, 0), dsb, write(84, wordOf(1, 1, 5)), dsb}
	kept := machineOf([]impl.Tlb{tlbPage}, nil)
	put(kept.Mem, 5, 4, 0)
	saw := []impl.Seen{seen(516, 1, impl.KOk, 77)}
	checkExec(t, "cached", m, ops, []impl.Event{read}, impl.Outcome{Code: 3, At: 2, Final: kept, Seen: saw})
	checkExec(t, "cached between the steps", m, ops, []impl.Event{step, read}, impl.Outcome{Code: 3, At: 2, Final: kept, Seen: saw})
	final := machineOf(nil, nil)
	put(final.Mem, 5, 4, wordOf(1, 1, 5))
	checkExec(t, "cached and dropped", m, ops, []impl.Event{read, drop(0)}, impl.Outcome{At: 4, Final: final, Seen: saw})
	checkExec(t, "cached too late", m, ops, []impl.Event{step, step, read}, impl.Outcome{At: 4, Final: final, Seen: []impl.Seen{seen(516, 1, impl.KFault, 0)}})
	checkExec(t, "the last operation", m, []impl.Op{dsb, dsb, free(4), free(5)}, nil, impl.Outcome{Code: 4, At: 3, Final: m})
	held := []impl.Event{fill(516, bitAdd3), step}
	broken := machineOf(nil, []impl.Wc{wcLast})
	put(broken.Mem, 3, 0, 0)
	checkExec(t, "a free of a table that Wc has", m, []impl.Op{write(48, 0), dsb, free(5)}, held, impl.Outcome{Code: 4, At: 2, Final: broken})
	checkExec(t, "ill formed", m, []impl.Op{dsb, tlbi(4095, 2), dsb}, nil, impl.Outcome{Code: 1, At: 1, Final: m})
}

// A program may run out of room for its writes, and not if barriers come.
func TestExecPendRunsFull(t *testing.T) {
	m := machineOf(nil, nil)
	ops := slices.Repeat([]impl.Op{write(70, 2)}, 10001)
	full := with(m, func(m *impl.Machine) { m.Pend = slices.Repeat([]impl.Write{{Addr: 70, Word: 2}}, 10000) })
	checkExec(t, "10000 writes", m, ops[:10000], nil, impl.Outcome{At: 10000, Final: full})
	checkExec(t, "10001 writes", m, ops, nil, impl.Outcome{Code: 1, At: 10000, Final: full})
	checkExec(t, "10001 writes by steps", m, ops, slices.Repeat([]impl.Event{step}, 10000), impl.Outcome{Code: 1, At: 10000, Final: full})
	ops[5000] = dsb
	final := with(m, func(m *impl.Machine) {
		put(m.Mem, 4, 6, 2)
		m.Pend = slices.Repeat([]impl.Write{{Addr: 70, Word: 2}}, 5000)
	})
	checkExec(t, "a DSB among them", m, ops, nil, impl.Outcome{At: 10001, Final: final})
}

// The longest run there is, with places and caches that are as great as can be,
// must still end soon.
func TestExecLongRun(t *testing.T) {
	m := impl.Machine{Mem: memOf(512)}
	for i := range 16 {
		put(m.Mem, 0, i, tableWord(1+i))
		for j := range 16 {
			put(m.Mem, 1+i, j, tableWord(17+16*i+j))
		}
	}
	for i := range 256 {
		m.Tlb = append(m.Tlb, impl.Tlb{Page: 16*i + 1, Size: 1, Out: 1, Perm: 1})
		m.Wc = append(m.Wc, impl.Wc{Level: 3, Page: 16 * i, Table: 17 + i})
	}
	var ops []impl.Op
	for i := range 5000 {
		addr := (17+i%256)*16 + 2 + i/256%14
		ops = append(ops, write(addr, wordOf(1, 1, i)), free(300+i%200), write(addr, 0), tlbi(0, 1))
	}
	ops[9999] = dsb
	o := impl.Exec(m, ops, slices.Repeat([]impl.Event{fill(4095, 65535)}, 10000))
	if o.Code != 0 || o.At != 20000 || len(o.Final.Pend) != 5000 {
		t.Errorf("code %d at %d, %d pending", o.Code, o.At, len(o.Final.Pend))
	}
}
