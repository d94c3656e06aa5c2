package tests

import (
	"math"
	"slices"
	"testing"

	"loop.example/backintime/impl"
)

// undoOf returns the undo of a choice of a thread that changes nothing but that thread.
func undoOf(who int, old impl.Thread) impl.Undo {
	return impl.Undo{Who: who, Old: old, Cell: -1, Lock: -1}
}

func undoOfCell(who int, old impl.Thread, cell int, was int) impl.Undo {
	u := undoOf(who, old)
	u.Cell, u.Was = cell, was
	return u
}

func undoOfLock(who int, old impl.Thread, lock int, held int) impl.Undo {
	u := undoOf(who, old)
	u.Lock, u.Held = lock, held
	return u
}

func undoOfBegin(who int, old impl.Thread) impl.Undo {
	u := undoOf(who, old)
	u.Begun = true
	return u
}

func undoOfTell(who int, old impl.Thread) impl.Undo {
	u := undoOf(who, old)
	u.Told = true
	return u
}

func isNoUndo(u impl.Undo) bool {
	return sameUndo(u, impl.Undo{})
}

// withLast returns a machine with a number told behind what was told.
func withLast(m impl.Machine, n int) impl.Machine {
	m.Told = append(cloneInts(m.Told), n)
	return m
}

// undone is a choice in a machine, what is needed to take it back, and the machine behind it; by hand.
type undone struct {
	what   string
	p      impl.Program
	m      impl.Machine
	c      impl.Choice
	undo   impl.Undo
	behind impl.Machine
}

// undosOfRegisters are of steps that change nothing but the registers of their thread.
func undosOfRegisters(t *testing.T) []undone {
	t.Helper()
	out := []undone{}
	old := withStack(at(0, 7, 9999, 3, 3), 1, 0)
	answered := impl.Choice{Who: 1, Reply: 9999}
	rows := []struct {
		text string
		c    impl.Choice
		regs []int
	}{
		{"set 1 6", impl.Choice{Who: 1}, []int{7, 6, 3, 3}},
		{"set 0 7", impl.Choice{Who: 1}, []int{7, 9999, 3, 3}},
		{"move 0 1", impl.Choice{Who: 1}, []int{9999, 9999, 3, 3}},
		{"add 1 2", impl.Choice{Who: 1}, []int{7, 2, 3, 3}},
		{"sub 3 2", impl.Choice{Who: 1}, []int{7, 9999, 3, 0}},
		{"mul 1 1", impl.Choice{Who: 1}, []int{7, 1, 3, 3}},
		{"less 0 1", impl.Choice{Who: 1}, []int{1, 9999, 3, 3}},
		{"load 0 2 1", impl.Choice{Who: 1}, []int{44, 9999, 3, 3}},
		{"ask 2", answered, []int{7, 9999, 9999, 3}},
		{"ask 2", impl.Choice{Who: 1}, []int{7, 9999, 0, 3}},
	}
	for _, row := range rows {
		m := withLocks(withCell(withTold(machineOf(at(0), old), 2), 4, 44), 1, 0)
		behind := clone(m)
		behind.Threads[1] = withStack(at(1, row.regs...), 1, 0)
		out = append(out, undone{row.text, program(t, -1, row.text), m, row.c, undoOf(1, old), behind})
	}
	return out
}

// undosOfPlaces are of steps and signals that change where their thread is, its stack, or its state.
func undosOfPlaces(t *testing.T) []undone {
	t.Helper()
	p := program(t, 4, "jump 3", "call 3", "zero 1 0", "ret", "halt")
	step, signal := impl.Choice{}, impl.Choice{Kind: impl.ChoiceSignal}
	full := []int{1, 2, 3, 4, 5, 0}
	none := func(what string, old impl.Thread, c impl.Choice, behind impl.Thread) undone {
		return undone{what, p, machineOf(old), c, undoOf(0, old), machineOf(behind)}
	}
	return []undone{
		none("jump", at(0), step, at(3)),
		none("call", withStack(at(1), 5), step, withStack(at(3), 5, 2)),
		none("zero", at(2, 5), step, at(0, 5)),
		none("not zero", at(2, 0, 1), step, at(3, 0, 1)),
		none("ret", withStack(at(3), 5, 2), step, withStack(at(2), 5)),
		none("ret, and nothing is left on the stack", withStack(at(3), 5), step, at(5)),
		none("halt", withStack(at(4, 1), 2), step, withState(withStack(at(4, 1), 2), 1)),
		none("signal", withStack(at(1, 9), 3), signal, withStack(at(4, 9), 3, 1)),
		none("signal as deep as it goes", withStack(at(3), full[:5]...), signal, withStack(at(4), 1, 2, 3, 4, 5, 3)),
		none("signal behind the end", at(5), signal, withStack(at(4), 5)),
		none("call too deep", withStack(at(1), full...), step, withState(withStack(at(1), full...), 2)),
		none("ret to nowhere", at(3, 1, 2, 3, 4), step, withState(at(3, 1, 2, 3, 4), 2)),
		none("behind the end", withStack(at(5, 1), 2), step, withState(withStack(at(5, 1), 2), 2)),
	}
}

// undosOfCommon are of steps that change cells, locks, threads or what was told, or would, if they did not fail.
func undosOfCommon(t *testing.T) []undone {
	t.Helper()
	p := program(t, 5, "store 1 2 7", "lock 1", "free 1", "tell 3", "begin 4", "free 0")
	step, second := impl.Choice{}, impl.Choice{Who: 1}
	storing, telling := at(0, 0, 55, 10), at(3, 0, 0, 0, 9)
	four := machineOf(at(0), at(4, 8), at(0), withState(at(0), 2))
	fourBehind := clone(four)
	fourBehind.Threads[1] = withState(at(4, 8), 2)
	return []undone{
		{"store", p, withCell(machineOf(storing), 1, 3), step, undoOfCell(0, storing, 1, 3), withCell(machineOf(at(1, 0, 55, 10)), 1, 55)},
		{"store where there was 0", p, machineOf(storing), step, undoOfCell(0, storing, 1, 0), withCell(machineOf(at(1, 0, 55, 10)), 1, 55)},
		{"store what there was", p, withCell(machineOf(storing), 1, 55), step, undoOfCell(0, storing, 1, 55), withCell(machineOf(at(1, 0, 55, 10)), 1, 55)},
		{"store 0", p, withCell(machineOf(at(0)), 7, 9999), step, undoOfCell(0, at(0), 7, 9999), machineOf(at(1))},
		{"store of the second thread", p, withCell(machineOf(at(3), storing), 1, 3), second, undoOfCell(1, storing, 1, 3), withCell(machineOf(at(3), at(1, 0, 55, 10)), 1, 55)},
		{"lock", p, withLocks(machineOf(at(1), at(1)), 0, -1), second, undoOfLock(1, at(1), 1, -1), withLocks(machineOf(at(1), at(2)), 0, 1)},
		{"lock of the first thread", p, machineOf(at(1)), step, undoOfLock(0, at(1), 1, -1), withLocks(machineOf(at(2)), -1, 0)},
		{"free", p, withLocks(machineOf(at(1), at(2)), 0, 1), second, undoOfLock(1, at(2), 1, 1), withLocks(machineOf(at(1), at(3)), 0, -1)},
		{"free of the first thread", p, withLocks(machineOf(at(5)), 0, 0), step, undoOfLock(0, at(5), 0, 0), withLocks(machineOf(at(6)), -1, 0)},
		{"tell", p, withTold(machineOf(telling), 3), step, undoOfTell(0, telling), withLast(withTold(machineOf(at(4, 0, 0, 0, 9)), 3), 9)},
		{"tell the first", p, machineOf(telling), step, undoOfTell(0, telling), withLast(machineOf(at(4, 0, 0, 0, 9)), 9)},
		{"tell the last that there is room for", p, withTold(machineOf(telling), 999), step, undoOfTell(0, telling), withLast(withTold(machineOf(at(4, 0, 0, 0, 9)), 999), 9)},
		{"begin", p, machineOf(withStack(at(4, 8), 2)), step, undoOfBegin(0, withStack(at(4, 8), 2)), machineOf(withStack(at(5, 8), 2), at(4, 8))},
		{"begin the last that there is room for", p, machineOf(at(0), at(4, 8), at(2)), second, undoOfBegin(1, at(4, 8)), machineOf(at(0), at(5, 8), at(2), at(4, 8))},
		{"begin one too many", p, four, second, undoOf(1, at(4, 8)), fourBehind},
		{"free what nobody holds", p, withLocks(machineOf(at(2)), 0, -1), step, undoOf(0, at(2)), withLocks(machineOf(withState(at(2), 2)), 0, -1)},
		{"free what another one holds", p, withLocks(machineOf(at(1), at(2)), -1, 0), second, undoOf(1, at(2)), withLocks(machineOf(at(1), withState(at(2), 2)), -1, 0)},
	}
}

// undosOfSignals are of signals to a thread at an instruction that would change something if it were done.
func undosOfSignals(t *testing.T) []undone {
	t.Helper()
	out := []undone{}
	for _, text := range []string{"store 1 2 7", "lock 0", "lock 1", "free 0", "free 1", "tell 3", "begin 0", "ask 2", "halt", "ret", "set 1 1"} {
		p := program(t, 0, text)
		old := at(0, 5, 6, 7, 8)
		m := withLocks(withCell(withTold(machineOf(at(1), old), 1000), 6, 9), 1, -1)
		behind := clone(m)
		behind.Threads[1] = withStack(old, 0)
		out = append(out, undone{"a signal at " + text, p, m, impl.Choice{Who: 1, Kind: impl.ChoiceSignal}, undoOf(1, old), behind})
	}
	return out
}

func undosByHand(t *testing.T) []undone {
	t.Helper()
	return slices.Concat(undosOfRegisters(t), undosOfPlaces(t), undosOfCommon(t), undosOfSignals(t))
}

func TestP14UndosByHand(t *testing.T) {
	for _, row := range undosByHand(t) {
		next, done := impl.Do(row.p, row.m, row.c)
		if !done || !equal(next, row.behind) {
			t.Errorf("%s: behind it there is %v, %v, want %v", row.what, next, done, row.behind)
		}
		u, ok := impl.UndoOf(row.p, row.m, row.c)
		if !ok || !sameUndo(u, row.undo) {
			t.Errorf("%s: what is needed is %v, %v, want %v", row.what, u, ok, row.undo)
		}
		if m, ok := impl.TakeBack(row.behind, row.undo); !ok || !equal(m, row.m) {
			t.Errorf("%s: taken back there is %v, %v, want %v", row.what, m, ok, row.m)
		}
	}
}

// leavesNoTrace fails if promise 14 is broken for a choice in a machine; it returns whether it can be made.
func leavesNoTrace(t *testing.T, p impl.Program, m impl.Machine, c impl.Choice) bool {
	t.Helper()
	u, ok := undoAsExpected(t, p, m, c)
	next, done := impl.Do(p, m, c)
	if ok != done || ok != impl.CanDo(p, m, c) {
		t.Fatalf("%v can be made in %v of %v: %v, and taken back: %v", c, m, p, done, ok)
	}
	if !ok {
		return false
	}
	if back, ok := impl.TakeBack(next, u); !ok || !equal(back, m) {
		t.Fatalf("%v of %v leads from %v to %v, and taken back by %v to %v, %v", c, p, m, next, u, back, ok)
	}
	return true
}

func TestP14NoTraceOfAnyStep(t *testing.T) {
	d := dice{seed: 93}
	made := make([]int, 18)
	failed := make([]int, 18)
	signals := 0
	for i := 0; i < 40000; i++ {
		p := d.program()
		m := d.machine(p)
		c := d.choice()
		if !leavesNoTrace(t, p, m, c) {
			continue
		}
		if c.Kind == impl.ChoiceSignal {
			signals++
			continue
		}
		next, _ := doExpected(p, m, c)
		code, ok := instrExpected(p, m, c.Who)
		if ok && next.Threads[c.Who].State == impl.ThreadFails {
			failed[code.Op]++
		} else if ok {
			made[code.Op]++
		}
	}
	for op, n := range made {
		if n < 30 {
			t.Errorf("instruction %d was done only %d times", op, n)
		}
	}
	for _, op := range []int{impl.OpCall, impl.OpRet, impl.OpFree, impl.OpBegin} {
		if failed[op] < 30 {
			t.Errorf("instruction %d failed only %d times", op, failed[op])
		}
	}
	if signals < 500 {
		t.Errorf("there were only %d signals", signals)
	}
}

// noUndo fails if anything is needed to take back what can not be done in a machine.
func noUndo(t *testing.T, what string, p impl.Program, m impl.Machine) {
	t.Helper()
	for _, c := range eachChoice() {
		if u, ok := impl.UndoOf(p, m, c); ok || !isNoUndo(u) {
			t.Fatalf("%s: to take back %v %v is needed, %v", what, c, u, ok)
		}
	}
}

func TestP14NothingIsNeededForChoicesThatCanNotBeMade(t *testing.T) {
	p := program(t, 0, "halt", "lock 0", "ask 1", "tell 0")
	full := make([]int, 6)
	rows := []struct {
		what string
		m    impl.Machine
		c    impl.Choice
	}{
		{"a lock that another one holds", withLocks(machineOf(at(1), at(0)), 1, -1), impl.Choice{}},
		{"a lock that it holds itself", withLocks(machineOf(at(1)), 0, -1), impl.Choice{}},
		{"no room to tell", withTold(machineOf(at(3)), 1000), impl.Choice{}},
		{"a thread that is done", machineOf(withState(at(0), 1)), impl.Choice{}},
		{"a thread that has failed", machineOf(withState(at(4), 2)), impl.Choice{}},
		{"a signal to a thread that is done", machineOf(withState(at(0), 1)), impl.Choice{Kind: 1}},
		{"a signal to a full stack", machineOf(withStack(at(0), full...)), impl.Choice{Kind: 1}},
		{"a signal with an answer", machineOf(at(2)), impl.Choice{Kind: 1, Reply: 1}},
		{"an answer where nothing is asked", machineOf(at(0)), impl.Choice{Reply: 1}},
		{"an answer behind the end", machineOf(at(4)), impl.Choice{Reply: 1}},
		{"an answer past the greatest one", machineOf(at(2)), impl.Choice{Reply: 10000}},
		{"an answer below 0", machineOf(at(2)), impl.Choice{Reply: -1}},
		{"no such thread", machineOf(at(0)), impl.Choice{Who: 1}},
		{"no such thread below 0", machineOf(at(0)), impl.Choice{Who: -1}},
		{"no such kind", machineOf(at(0)), impl.Choice{Kind: 2}},
		{"no such kind below 0", machineOf(at(0)), impl.Choice{Kind: -1}},
	}
	for _, row := range rows {
		if u, ok := impl.UndoOf(p, row.m, row.c); ok || !isNoUndo(u) {
			t.Errorf("%s: %v, %v", row.what, u, ok)
		}
	}
	handles := program(t, -1, "halt")
	if u, ok := impl.UndoOf(handles, machineOf(at(0)), impl.Choice{Kind: 1}); ok || !isNoUndo(u) {
		t.Errorf("a signal without a handler: %v, %v", u, ok)
	}
	for _, bad := range brokenPrograms() {
		noUndo(t, "what is no program", bad, impl.MachineNew())
		noUndo(t, "what is no program, with two threads", bad, machineOf(at(0), at(1)))
	}
	for _, x := range brokenBy(machineOf(at(1), at(2), withState(at(4), 1)), 4) {
		noUndo(t, x.why, p, x.m)
	}
}

// notTaken is an undo that can not be taken back in a machine, and why.
type notTaken struct {
	why string
	m   impl.Machine
	u   impl.Undo
}

func undosOfNone() []notTaken {
	one := withTold(machineOf(at(3)), 2)
	two := withTold(machineOf(at(3), at(4)), 2)
	old := at(1, 1, 2, 3, 4)
	silent := machineOf(at(3), at(4))
	both := undoOfBegin(0, old)
	both.Told = true
	bare := one
	bare.Cells, bare.Locks = nil, nil
	out := []notTaken{
		{"no machine", impl.Machine{}, undoOf(0, old)},
		{"no machine and no undo", impl.Machine{}, impl.Undo{}},
		{"no thread to be gone", withTold(machineOf(), 2), undoOfBegin(0, old)},
		{"the only thread is gone", one, undoOfBegin(0, old)},
		{"the thread itself is gone", two, undoOfBegin(1, old)},
		{"nothing told to be gone", silent, undoOfTell(0, old)},
		{"nothing told to be gone, but a thread", silent, both},
		{"no thread left, but something told", one, both},
		{"no cells", bare, undoOfCell(0, old, 0, 1)},
		{"no locks", bare, undoOfLock(0, old, 0, 1)},
	}
	for _, n := range []int{math.MinInt, -100, -2, -1, 2, 3, 4, 1000, math.MaxInt} {
		out = append(out, notTaken{"no such thread", two, undoOf(n, old)})
	}
	for _, n := range []int{math.MinInt, -100, -2, 8, 9, 1000, math.MaxInt} {
		out = append(out, notTaken{"no such cell", two, undoOfCell(0, old, n, 1)}, notTaken{"no such cell of the second thread", two, undoOfCell(1, old, n, 0)})
	}
	for _, n := range []int{math.MinInt, -100, -2, 2, 3, 1000, math.MaxInt} {
		out = append(out, notTaken{"no such lock", two, undoOfLock(0, old, n, -1)}, notTaken{"no such lock of the second thread", two, undoOfLock(1, old, n, 0)})
	}
	return out
}

func TestP14WhatCanNotBeTakenBack(t *testing.T) {
	for _, row := range undosOfNone() {
		if m, ok := impl.TakeBack(row.m, row.u); ok || !isNothing(m) {
			t.Errorf("%s: %v taken back in %v: %v, %v", row.why, row.u, row.m, m, ok)
		}
	}
}

func TestP14TakenBackByHand(t *testing.T) {
	old := withState(withStack(at(1, 1, 2, 3, 4), 7, 8), 2)
	three := withLast(withTold(machineOf(at(3), at(4), at(5)), 1), 9)
	all := impl.Undo{Who: 1, Old: old, Cell: 7, Was: 70, Lock: 1, Held: 2, Begun: true, Told: true}
	allBack := withLocks(withCell(withTold(machineOf(at(3), old), 1), 7, 70), -1, 2)
	odd := impl.Thread{At: -5, Regs: []int{-1}, Stack: make([]int, 20), State: 77}
	long := impl.Machine{Threads: make([]impl.Thread, 20), Cells: make([]int, 1000), Locks: make([]int, 30), Told: []int{-4}}
	longBack := clone(long)
	longBack.Threads = longBack.Threads[:19]
	longBack.Threads[18] = odd
	longBack.Cells[999], longBack.Locks[29], longBack.Told = -6, 1000, nil
	rows := []struct {
		what string
		m    impl.Machine
		u    impl.Undo
		want impl.Machine
	}{
		{"a thread alone", three, undoOf(2, old), withLast(withTold(machineOf(at(3), at(4), old), 1), 9)},
		{"the first cell", machineOf(at(3)), undoOfCell(0, old, 0, 5), withCell(machineOf(old), 0, 5)},
		{"the last cell", machineOf(at(3)), undoOfCell(0, old, 7, 9999), withCell(machineOf(old), 7, 9999)},
		{"the first lock", machineOf(at(3)), undoOfLock(0, old, 0, 0), withLocks(machineOf(old), 0, -1)},
		{"the last lock", withLocks(machineOf(at(3)), 0, 0), undoOfLock(0, old, 1, -1), withLocks(machineOf(old), 0, -1)},
		{"the last thread is gone", three, undoOfBegin(0, old), withLast(withTold(machineOf(old, at(4)), 1), 9)},
		{"the last that was told is gone", three, undoOfTell(0, old), withTold(machineOf(old, at(4), at(5)), 1)},
		{"all at once", three, all, allBack},
		{"no cell, though there is a number for it", three, undoOfCell(0, old, -1, 66), withLast(withTold(machineOf(old, at(4), at(5)), 1), 9)},
		{"no lock, though there is who holds it", three, undoOfLock(0, old, -1, 1), withLast(withTold(machineOf(old, at(4), at(5)), 1), 9)},
		{"numbers that no machine has", long, impl.Undo{Who: 18, Old: odd, Cell: 999, Was: -6, Lock: 29, Held: 1000, Begun: true, Told: true}, longBack},
		{"nothing but a thread", impl.Machine{Threads: []impl.Thread{odd}}, undoOf(0, impl.Thread{}), impl.Machine{Threads: []impl.Thread{{}}}},
	}
	for _, row := range rows {
		if m, ok := impl.TakeBack(row.m, row.u); !ok || !equal(m, row.want) {
			t.Errorf("%s: %v, %v, want %v", row.what, m, ok, row.want)
		}
	}
}

// takenInOrder takes undos back one after the other, and returns the machine at the end.
func takenInOrder(t *testing.T, m impl.Machine, undos ...impl.Undo) impl.Machine {
	t.Helper()
	for _, u := range undos {
		next, ok := takenAsExpected(t, m, u)
		if !ok {
			t.Fatalf("%v can not be taken back in %v", u, m)
		}
		m = next
	}
	return m
}

func TestP14OutOfOrderByHand(t *testing.T) {
	undosOf := func(p impl.Program, m impl.Machine, list []impl.Choice) (impl.Machine, []impl.Undo) {
		out := []impl.Undo{}
		for _, c := range list {
			u, _ := impl.UndoOf(p, m, c)
			out = append(out, u)
			m, _ = impl.Do(p, m, c)
		}
		return m, out
	}
	stores := program(t, -1, "store 1 0 0")
	apart := machineOf(at(0, 3, 30), at(0, 5, 50))
	end, undos := undosOf(stores, apart, steps(0, 1))
	first := withCell(machineOf(at(0, 3, 30), at(1, 5, 50)), 5, 50)
	if got := takenInOrder(t, end, undos[0]); !equal(got, first) {
		t.Errorf("of cells that are apart the first is taken back: %v, want %v", got, first)
	}
	if got := takenInOrder(t, end, undos[0], undos[1]); !equal(got, apart) {
		t.Errorf("cells that are apart: %v, want %v", got, apart)
	}

	same := withCell(machineOf(at(0, 3, 30), at(0, 3, 50)), 3, 9)
	end, undos = undosOf(stores, same, steps(0, 1))
	if got := takenInOrder(t, end, undos[1], undos[0]); !equal(got, same) {
		t.Errorf("the same cell, in order: %v, want %v", got, same)
	}
	// The second one to store keeps what the first one had stored, so that is there again.
	if got, want := takenInOrder(t, end, undos[0], undos[1]), withCell(same, 3, 30); !equal(got, want) {
		t.Errorf("the same cell, out of order: %v, want %v", got, want)
	}

	begins := program(t, -1, "begin 0", "begin 1")
	both := machineOf(at(0, 1), at(1, 2))
	end, undos = undosOf(begins, both, steps(0, 1))
	// The last thread is gone, which is not the one that began by this step.
	if got, want := takenInOrder(t, end, undos[0]), machineOf(at(0, 1), at(2, 2), at(0, 1)); !equal(got, want) {
		t.Errorf("threads that begin: %v, want %v", got, want)
	}
	if got := takenInOrder(t, end, undos[0], undos[1]); !equal(got, both) {
		t.Errorf("threads that begin, out of order: %v, want %v", got, both)
	}

	tells := program(t, -1, "tell 0")
	talk := machineOf(at(0, 1), at(0, 2))
	end, undos = undosOf(tells, talk, steps(0, 1))
	if got, want := takenInOrder(t, end, undos[0]), withLast(machineOf(at(0, 1), at(1, 2)), 1); !equal(got, want) {
		t.Errorf("what was told: %v, want %v", got, want)
	}

	locks := program(t, -1, "lock 0", "free 0", "halt")
	free := machineOf(at(0), at(0))
	end, undos = undosOf(locks, free, steps(0, 0, 1))
	// That the first thread took the lock is taken back, and so nobody holds it, though the second one took it later.
	if got, want := takenInOrder(t, end, undos[0]), machineOf(at(0), at(1)); !equal(got, want) {
		t.Errorf("a lock that was taken: %v, want %v", got, want)
	}
	if got, want := takenInOrder(t, end, undos[1]), withLocks(machineOf(at(1), at(1)), 0, -1); !equal(got, want) {
		t.Errorf("a lock that was given back: %v, want %v", got, want)
	}
}

func TestP14OutOfOrder(t *testing.T) {
	d := dice{seed: 94}
	taken, not := 0, 0
	for i := 0; i < 400; i++ {
		p := d.program()
		list := d.longRun(p, d.oneOf([]int{1, 3, 20, 60}))
		undos := impl.UndosOf(p, list)
		m := machinesExpected(p, list)[d.below(len(list)+1)]
		for k := 0; k < 20; k++ {
			next, ok := takenAsExpected(t, m, undos[d.below(len(undos))])
			if ok {
				taken++
				m = next
			} else {
				not++
			}
		}
	}
	if taken < 2000 || not < 100 {
		t.Fatalf("%d undos were taken back, and %d could not be", taken, not)
	}
}

func TestP15BackByHand(t *testing.T) {
	p, list, machines := talker(t)
	want := []impl.Undo{
		undoOfBegin(0, at(0)),
		undoOf(1, at(3)),
		undoOf(0, at(1)),
		undoOf(0, at(2, 0, 42)),
		undoOf(1, at(4, 0, 0, 5)),
		undoOfCell(0, at(4, 0, 42), 3, 0),
		undoOfTell(1, withStack(at(5, 0, 0, 5), 4)),
		undoOfTell(0, at(5, 0, 42)),
		undoOf(0, at(6, 0, 42)),
	}
	undos := impl.UndosOf(p, list)
	if len(undos) != len(want) {
		t.Fatalf("there are %d undos: %v", len(undos), undos)
	}
	for k := range want {
		if !sameUndo(undos[k], want[k]) {
			t.Errorf("undo %d is %v, want %v", k, undos[k], want[k])
		}
	}
	for k := range machines {
		if m, ok := impl.BackFrom(p, list, k); !ok || !equal(m, machines[k]) {
			t.Errorf("back at %d: %v, %v, want %v", k, m, ok, machines[k])
		}
	}
	for _, k := range []int{math.MinInt, -301, -10, -1, 10, 11, 300, 301, math.MaxInt} {
		if m, ok := impl.BackFrom(p, list, k); ok || !isNothing(m) {
			t.Errorf("back at %d: %v, %v", k, m, ok)
		}
	}
	if m, ok := impl.BackFrom(p, nil, 0); !ok || !equal(m, machineOf(at(0))) {
		t.Errorf("back from no choices: %v, %v", m, ok)
	}
}

// backIsForth fails if promise 15 is broken for a run: by one undo after the other, and by BackFrom at places each so far from one another.
func backIsForth(t *testing.T, p impl.Program, list []impl.Choice, each int) {
	t.Helper()
	machines := machinesExpected(p, list)
	undos := impl.UndosOf(p, list)
	if len(machines) != len(list)+1 || len(undos) != len(list) {
		t.Fatalf("%v of %v has %d machines and %d undos", list, p, len(machines), len(undos))
	}
	m := impl.Machines(p, list)[len(list)]
	for k := len(list); k >= 0; k-- {
		if !equal(m, machines[k]) {
			t.Fatalf("back at %d of %v of %v there is %v, want %v", k, list, p, m, machines[k])
		}
		if k == 0 {
			break
		}
		back, ok := impl.TakeBack(m, undos[k-1])
		if !ok {
			t.Fatalf("%v can not be taken back in %v", undos[k-1], m)
		}
		m = back
	}
	for k := 0; k <= len(list); k += each {
		if m, ok := impl.BackFrom(p, list, k); !ok || !equal(m, machines[k]) {
			t.Fatalf("back at %d of %v of %v: %v, %v, want %v", k, list, p, m, ok, machines[k])
		}
	}
}

func TestP15BackFromTheEnd(t *testing.T) {
	d := dice{seed: 95}
	long, begun, told, failed := 0, 0, 0, 0
	for i := 0; i < 600; i++ {
		p := d.lively()
		if d.below(2) == 0 {
			p = d.program()
		}
		list := d.longRun(p, d.oneOf([]int{0, 1, 2, 10, 30, 300}))
		backIsForth(t, p, list, 1+len(list)/12)
		machines := machinesExpected(p, list)
		end := machines[len(machines)-1]
		if len(list) == 300 {
			long++
		}
		if len(end.Threads) > 1 {
			begun++
		}
		if len(end.Told) > 0 {
			told++
		}
		for _, x := range end.Threads {
			if x.State == impl.ThreadFails {
				failed++
			}
		}
	}
	if long < 10 || begun < 20 || told < 20 || failed < 20 {
		t.Fatalf("%d runs had 300 choices, %d began threads, %d told something, %d threads failed", long, begun, told, failed)
	}
}

func TestP15EachShortRun(t *testing.T) {
	programs := append(smallPrograms(t),
		program(t, -1, "begin 0", "tell 0"),
		program(t, -1, "call 0", "halt"),
		program(t, 1, "store 0 0 0", "ret"),
		program(t, -1, "lock 0", "free 0", "free 1"),
	)
	seen := 0
	for _, p := range programs {
		for _, list := range eachRun(p, 5) {
			backIsForth(t, p, list, 1)
			seen++
		}
	}
	if seen < 500 {
		t.Fatalf("there were only %d runs", seen)
	}
}

func TestP15StepsThatFailAreTakenBack(t *testing.T) {
	rows := []struct {
		what string
		p    impl.Program
		list []impl.Choice
	}{
		{"behind the end", program(t, -1, "set 1 2"), steps(0, 0)},
		{"a stack that is full", program(t, -1, "call 0"), steps(0, 0, 0, 0, 0, 0, 0)},
		{"nowhere to come back to", program(t, -1, "call 1", "ret"), steps(0, 0, 0)},
		{"a lock that nobody holds", program(t, -1, "tell 0", "free 1"), steps(0, 0)},
		{"a lock that another one holds", program(t, -1, "lock 1", "begin 2", "free 1"), steps(0, 0, 1, 0)},
		{"a thread too many", program(t, -1, "begin 0"), steps(0, 1, 2, 3, 0)},
	}
	for _, row := range rows {
		backIsForth(t, row.p, row.list, 1)
		failing := false
		for _, m := range impl.Machines(row.p, row.list) {
			for _, x := range m.Threads {
				failing = failing || x.State == impl.ThreadFails
			}
		}
		if !failing {
			t.Errorf("%s: no thread fails", row.what)
		}
	}
}

// noWayBack fails if there is anything to take back of what is no run.
func noWayBack(t *testing.T, what string, p impl.Program, list []impl.Choice) {
	t.Helper()
	if undos := impl.UndosOf(p, list); len(undos) != 0 {
		t.Fatalf("%s: there are undos %v", what, undos)
	}
	for _, k := range []int{math.MinInt, -1, 0, 1, 2, len(list) - 1, len(list), len(list) + 1, 300, 301, math.MaxInt} {
		if m, ok := impl.BackFrom(p, list, k); ok || !isNothing(m) {
			t.Fatalf("%s: back at %d: %v, %v", what, k, m, ok)
		}
	}
}

func TestP15NoWayBackOfWhatIsNoRun(t *testing.T) {
	p, list, _ := talker(t)
	jumps := program(t, -1, "jump 0")
	noWayBack(t, "a choice that can not be made, ahead", p, joined(steps(2), list...))
	noWayBack(t, "a choice that can not be made, behind", p, joined(list, impl.Choice{}))
	noWayBack(t, "a choice that can not be made, in the middle", p, slices.Concat(list[:4], steps(3), list[4:]))
	noWayBack(t, "an answer where nothing is asked", p, []impl.Choice{{Reply: 1}})
	noWayBack(t, "301 choices", jumps, make([]impl.Choice, 301))
	noWayBack(t, "1000 choices", jumps, make([]impl.Choice, 1000))
	for _, bad := range brokenPrograms() {
		noWayBack(t, "what is no program", bad, nil)
		noWayBack(t, "what is no program, with a choice", bad, steps(0))
	}
	backIsForth(t, jumps, make([]impl.Choice, 300), 1)
}

// takenTwice fails if promise 85 is broken for an undo that was taken back and led to a machine.
func takenTwice(t *testing.T, back impl.Machine, u impl.Undo) {
	t.Helper()
	again, ok := takenAsExpected(t, back, u)
	if !u.Begun && !u.Told {
		if !ok || !equal(again, back) {
			t.Fatalf("%v taken back leads to %v, and again to %v, %v", u, back, again, ok)
		}
		return
	}
	if ok && u.Begun && len(again.Threads) != len(back.Threads)-1 || ok && u.Told && len(again.Told) != len(back.Told)-1 {
		t.Fatalf("%v taken back leads to %v, and again to %v", u, back, again)
	}
}

func TestP85TakenBackAgain(t *testing.T) {
	for _, row := range undosByHand(t) {
		back, _ := impl.TakeBack(row.behind, row.undo)
		takenTwice(t, back, row.undo)
	}
	d := dice{seed: 96}
	alone, more := 0, 0
	for i := 0; i < 20000; i++ {
		p := d.program()
		m := d.machine(p)
		c := d.choice()
		u, ok := impl.UndoOf(p, m, c)
		if !ok {
			u = d.undo(m)
		}
		back, ok := takenAsExpected(t, m, u)
		if !ok {
			continue
		}
		takenTwice(t, back, u)
		if u.Begun || u.Told {
			more++
		} else {
			alone++
		}
	}
	if alone < 2000 || more < 2000 {
		t.Fatalf("%d undos had only a thread, a cell and a lock, and %d more", alone, more)
	}
}

func TestP85ThreadsAndWhatWasToldByHand(t *testing.T) {
	old := at(1, 1, 2, 3, 4)
	three := machineOf(at(0), at(0), at(0))
	if got, want := takenInOrder(t, three, undoOfBegin(0, old), undoOfBegin(0, old)), machineOf(old); !equal(got, want) {
		t.Errorf("two threads are gone: %v, want %v", got, want)
	}
	if got, ok := impl.TakeBack(machineOf(old), undoOfBegin(0, old)); ok || !isNothing(got) {
		t.Errorf("the only thread is gone: %v", got)
	}
	told := withTold(machineOf(at(0)), 2)
	if got, want := takenInOrder(t, told, undoOfTell(0, old), undoOfTell(0, old)), machineOf(old); !equal(got, want) {
		t.Errorf("two that were told are gone: %v, want %v", got, want)
	}
	if got, ok := impl.TakeBack(machineOf(old), undoOfTell(0, old)); ok || !isNothing(got) {
		t.Errorf("nothing was told, and it is gone: %v", got)
	}
	both := undoOfCell(0, old, 2, 7)
	both.Lock, both.Held = 1, 0
	want := withLocks(withCell(machineOf(old), 2, 7), -1, 0)
	for _, many := range []int{1, 2, 3, 10} {
		if got := takenInOrder(t, machineOf(at(0)), slices.Repeat([]impl.Undo{both}, many)...); !equal(got, want) {
			t.Errorf("taken back %d times: %v, want %v", many, got, want)
		}
	}
}

func TestP86OneUndoForEachChoice(t *testing.T) {
	d := dice{seed: 97}
	for i := 0; i < 200; i++ {
		p := d.lively()
		list := d.run(p, d.oneOf([]int{0, 1, 2, 10, 60, 300}))
		machines := machinesExpected(p, list)
		undos := impl.UndosOf(p, list)
		if len(undos) != len(list) {
			t.Fatalf("%d choices %v of %v have %d undos", len(list), list, p, len(undos))
		}
		for k, u := range undos {
			if one, ok := impl.UndoOf(p, machines[k], list[k]); !ok || !sameUndo(u, one) || u.Who != list[k].Who {
				t.Fatalf("undo %d of %v of %v is %v, and that of the choice alone %v, %v", k, list, p, u, one, ok)
			}
		}
		k := d.below(len(list) + 1)
		short := impl.UndosOf(p, list[:k])
		if len(short) != k {
			t.Fatalf("the first %d choices of %v of %v have %d undos", k, list, p, len(short))
		}
		for n := range short {
			if !sameUndo(short[n], undos[n]) {
				t.Fatalf("undo %d of the first %d choices of %v of %v is %v, want %v", n, k, list, p, short[n], undos[n])
			}
		}
	}
	jumps := program(t, -1, "jump 0")
	for _, n := range []int{0, 1, 2, 299, 300, 301, 302, 1000} {
		want := n
		if n > 300 {
			want = 0
		}
		if got := impl.UndosOf(jumps, make([]impl.Choice, n)); len(got) != want {
			t.Errorf("%d choices have %d undos", n, len(got))
		}
	}
}

func TestP87SizesByHand(t *testing.T) {
	rows := []struct {
		what string
		u    impl.Undo
		want int
	}{
		{"no undo", impl.Undo{}, 7},
		{"no stack", undoOf(0, at(0)), 11},
		{"one place on the stack", undoOf(3, withStack(at(9, 1, 2, 3, 4), 5)), 12},
		{"a full stack", undoOf(0, withStack(at(0), 1, 2, 3, 4, 5, 6)), 17},
		{"a cell", undoOfCell(0, at(0), 7, 9999), 11},
		{"a lock", undoOfLock(0, at(0), 1, -1), 11},
		{"a thread that begins", undoOfBegin(0, at(0)), 11},
		{"something told", undoOfTell(0, at(0)), 11},
		{"all of it", impl.Undo{Who: 1, Old: withStack(withState(at(5), 2), 0, 0), Cell: 3, Was: 4, Lock: 0, Held: 1, Begun: true, Told: true}, 13},
		{"numbers that no undo has", impl.Undo{Who: -9, Cell: math.MinInt, Lock: math.MaxInt}, 7},
		{"no registers", impl.Undo{Old: impl.Thread{Stack: []int{1, 2}}}, 9},
		{"1000 registers", impl.Undo{Old: impl.Thread{Regs: make([]int, 1000)}}, 1007},
		{"1000 registers and places", impl.Undo{Old: impl.Thread{Regs: make([]int, 1000), Stack: make([]int, 1000)}}, 2007},
	}
	for _, row := range rows {
		if got := impl.UndoSize(row.u); got != row.want {
			t.Errorf("%s: %d numbers are kept, want %d", row.what, got, row.want)
		}
	}
}

func TestP87WhatIsKeptDoesNotGrowWithMemory(t *testing.T) {
	d := dice{seed: 98}
	for i := 0; i < 8000; i++ {
		p := d.program()
		m := d.machine(p)
		c := d.choice()
		u, ok := impl.UndoOf(p, m, c)
		if !ok {
			continue
		}
		size := impl.UndoSize(u)
		if size != 11+len(m.Threads[c.Who].Stack) || size > 17 {
			t.Fatalf("to take back %v in %v %d numbers are kept: %v", c, m, size, u)
		}
		// With little told and one thread less there is as much to keep.
		small := clone(m)
		small.Told = nil
		small.Locks = []int{-1, -1}
		if last := len(m.Threads) - 1; last > c.Who {
			small.Threads = small.Threads[:last]
		}
		if less, ok := impl.UndoOf(p, small, c); ok && impl.UndoSize(less) != size {
			t.Fatalf("to take back %v in %v %d numbers are kept, and in %v %d", c, m, size, small, impl.UndoSize(less))
		}
	}
	tells := program(t, -1, "tell 0", "store 0 0 0", "jump 0")
	for k, u := range impl.UndosOf(tells, make([]impl.Choice, 300)) {
		if impl.UndoSize(u) != 11 {
			t.Fatalf("for choice %d %d numbers are kept", k, impl.UndoSize(u))
		}
	}
}

func TestP169OverWhateverProgramsAndMachines(t *testing.T) {
	d := dice{seed: 99}
	good, bad, taken, not := 0, 0, 0, 0
	for i := 0; i < 30000; i++ {
		p := d.mangledProgram(d.program())
		m := d.mangledMachine(d.machine(impl.Program{Rows: rowsOf(max(len(p.Rows), 1))}))
		c := d.choice()
		u := impl.Undo{}
		if leavesNoTrace(t, p, m, c) {
			good++
			u, _ = impl.UndoOf(p, m, c)
			m, _ = impl.Do(p, m, c)
		} else {
			bad++
			u = d.undo(m)
		}
		if _, ok := takenAsExpected(t, d.mangledMachine(m), d.mangledUndo(u)); ok {
			taken++
		} else {
			not++
		}
	}
	if good < 3000 || bad < 3000 || taken < 3000 || not < 3000 {
		t.Fatalf("%d choices could be made and %d could not, %d undos could be taken back and %d could not", good, bad, taken, not)
	}
}

func TestP169OverWhateverRows(t *testing.T) {
	d := dice{seed: 100}
	numbers := append(fieldsNear(), -1, -1, -1, 0, 0, 0, 1, 1, 2, 3)
	list := func() []int {
		out := []int{}
		for i := d.oneOf([]int{0, 1, 2, 4, 6, 8, 9, 999, 1000}); i > 0; i-- {
			out = append(out, d.oneOf(numbers))
		}
		return out
	}
	thread := func() impl.Thread {
		return impl.Thread{At: d.oneOf(numbers), Regs: list(), Stack: list(), State: d.oneOf(numbers)}
	}
	taken, not := 0, 0
	for i := 0; i < 4000; i++ {
		m := impl.Machine{Cells: list(), Locks: list(), Told: list()}
		for k := d.oneOf([]int{0, 1, 2, 4, 5, 20}); k > 0; k-- {
			m.Threads = append(m.Threads, thread())
		}
		u := impl.Undo{Who: d.below(6) - 1, Old: thread(), Cell: d.oneOf(numbers), Was: d.oneOf(numbers), Lock: d.oneOf(numbers), Held: d.oneOf(numbers)}
		u.Begun = d.below(4) == 0
		u.Told = d.below(4) == 0
		if d.below(2) == 0 {
			u.Cell = -1
		}
		if d.below(2) == 0 {
			u.Lock = -1
		}
		if back, ok := takenAsExpected(t, m, u); ok {
			taken++
			takenTwice(t, back, u)
		} else {
			not++
		}
		if want := 7 + len(u.Old.Regs) + len(u.Old.Stack); impl.UndoSize(u) != want {
			t.Fatalf("%v keeps %d numbers, want %d", u, impl.UndoSize(u), want)
		}
		undoAsExpected(t, d.anyProgram(), m, impl.Choice{Who: d.oneOf(numbers), Kind: d.oneOf(numbers), Reply: d.oneOf(numbers)})
	}
	if taken < 300 || not < 300 {
		t.Fatalf("%d undos could be taken back and %d could not", taken, not)
	}
}

func TestP170OverWhateverProgramsAndRows(t *testing.T) {
	d := dice{seed: 101}
	good, bad := 0, 0
	for i := 0; i < 1500; i++ {
		p := d.anyProgram()
		list := []impl.Choice{}
		if impl.ProgramOk(p) {
			list = d.longRun(p, d.oneOf([]int{0, 1, 3, 20, 60, 300}))
		}
		if d.below(3) == 0 {
			list = d.mangledRun(list)
		}
		if !undosAsExpected(t, p, list) {
			bad++
			continue
		}
		good++
		backIsForth(t, p, list, 1+len(list)/4)
	}
	if good < 400 || bad < 400 {
		t.Fatalf("%d were runs, and %d were none", good, bad)
	}
}

// oldsOf returns a machine of the threads of undos, so that their memory can be looked at as that of machines.
func oldsOf(undos ...impl.Undo) impl.Machine {
	m := impl.Machine{}
	for _, u := range undos {
		m.Threads = append(m.Threads, u.Old)
	}
	return m
}

func TestResultsOfUndosAreNew(t *testing.T) {
	d := dice{seed: 102}
	taken := 0
	for i := 0; i < 5000; i++ {
		p := d.program()
		was := d.machine(p)
		c := d.choice()
		m := roomyMachine(was)
		first, ok := impl.UndoOf(p, m, c)
		second, _ := impl.UndoOf(p, m, c)
		if !ok {
			first, second = d.undo(was), d.undo(was)
		}
		if scribbled(oldsOf(first), oldsOf(second)) || !unharmed(m, was) {
			t.Fatalf("what is needed to take back %v in %v shares memory with it", c, was)
		}
		wasUndo := d.undo(was)
		old := roomyMachine(oldsOf(wasUndo))
		u := wasUndo
		u.Old = old.Threads[0]
		back, ok := impl.TakeBack(m, u)
		again, _ := impl.TakeBack(m, u)
		if scribbled(back, again) || !unharmed(m, was) || !unharmed(old, oldsOf(wasUndo)) {
			t.Fatalf("%v taken back in %v shares memory with it", wasUndo, was)
		}
		if ok {
			taken++
		}
	}
	if taken < 1000 {
		t.Fatalf("only %d undos were taken back", taken)
	}
}

func TestResultsOfWaysBackAreNew(t *testing.T) {
	d := dice{seed: 103}
	for i := 0; i < 300; i++ {
		p := d.lively()
		rows := append([]impl.Code{}, p.Rows...)
		was := d.run(p, d.oneOf([]int{0, 1, 2, 20}))
		list := append(make([]impl.Choice, 0, len(was)+2), was...)
		copy(list[len(list):cap(list)], steps(-88, -88))
		k := d.below(len(list) + 1)
		made := []impl.Machine{}
		for n := 0; n < 2; n++ {
			m, _ := impl.BackFrom(p, list, k)
			end, _ := impl.BackFrom(p, list, len(list))
			made = append(made, m, end, oldsOf(impl.UndosOf(p, list)...))
		}
		if scribbled(made...) {
			t.Fatalf("undos or machines of %v of %v share memory", was, p)
		}
		if !slices.Equal(list, was) || !slices.Equal(list[len(list):cap(list)], steps(-88, -88)) || !slices.Equal(p.Rows, rows) {
			t.Fatalf("%v or %v was written to: %v, %v", was, rows, list[:cap(list)], p.Rows)
		}
		undosAsExpected(t, p, list)
	}
}

func TestWayOfStepsTakenBackIsAFewNumbers(t *testing.T) {
	calls := callsOf(newSource(t))
	for _, way := range [][]string{{"BackFrom", "UndosOf"}, {"BackFrom", "TakeBack"}, {"UndosOf", "UndoOf"}} {
		if !reaches(calls, way[0], way[1], map[string]bool{}) {
			t.Errorf("%s does not go by %s", way[0], way[1])
		}
	}
	for _, name := range []string{"Do", "CanDo", "MachineNew"} {
		if reaches(calls, "TakeBack", name, map[string]bool{}) {
			t.Errorf("a step is taken back by %s, not by what was kept of it", name)
		}
	}
}
