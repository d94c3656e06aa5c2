package tests

import (
	"math"
	"strings"
	"testing"

	"loop.example/backintime/impl"
)

// eachChoice returns choices of every thread, of each kind and none, with answers at the edges.
func eachChoice() []impl.Choice {
	out := []impl.Choice{}
	for _, who := range []int{math.MinInt, -1, 0, 1, 2, 3, 4, math.MaxInt} {
		for _, kind := range []int{math.MinInt, -1, 0, 1, 2, math.MaxInt} {
			for _, reply := range []int{math.MinInt, -1, 0, 1, 9999, 10000, math.MaxInt} {
				out = append(out, impl.Choice{Who: who, Kind: kind, Reply: reply})
			}
		}
	}
	return out
}

// program returns the program whose instructions have texts.
func program(t *testing.T, handler int, texts ...string) impl.Program {
	t.Helper()
	p := impl.Program{Handler: handler}
	for _, s := range texts {
		c, ok := impl.ReadCode(s)
		if !ok {
			t.Fatalf("%q is no instruction", s)
		}
		p.Rows = append(p.Rows, c)
	}
	return p
}

// machineOf returns a machine of threads with all else as it is at first.
func machineOf(threads ...impl.Thread) impl.Machine {
	return impl.Machine{Threads: threads, Cells: make([]int, 8), Locks: []int{-1, -1}}
}

// at returns a thread that runs, at a place and with registers.
func at(place int, regs ...int) impl.Thread {
	return impl.Thread{At: place, Regs: append(regs, make([]int, 4-len(regs))...)}
}

func withStack(t impl.Thread, places ...int) impl.Thread {
	t.Stack = places
	return t
}

func withState(t impl.Thread, state int) impl.Thread {
	t.State = state
	return t
}

func withLocks(m impl.Machine, a int, b int) impl.Machine {
	m.Locks = []int{a, b}
	return m
}

func withTold(m impl.Machine, many int) impl.Machine {
	m.Told = make([]int, many)
	return m
}

func withCell(m impl.Machine, cell int, n int) impl.Machine {
	m.Cells = cloneInts(m.Cells)
	m.Cells[cell] = n
	return m
}

// isNothing reports whether a machine is the zero value.
func isNothing(m impl.Machine) bool {
	return len(m.Threads)+len(m.Cells)+len(m.Locks)+len(m.Told) == 0
}

// refused fails if a function of a machine returns anything but its fixed result.
func refused(t *testing.T, what string, p impl.Program, m impl.Machine) {
	t.Helper()
	if impl.MachineOk(p, m) {
		t.Fatalf("%s: it is a machine", what)
	}
	if impl.Stuck(p, m) {
		t.Fatalf("%s: it is stuck", what)
	}
	for _, who := range []int{math.MinInt, -1, 0, 1, 3, 4, math.MaxInt} {
		if c, ok := impl.InstrOf(p, m, who); ok || c != (impl.Code{}) {
			t.Fatalf("%s: thread %d is at %v, %v", what, who, c, ok)
		}
	}
	for _, c := range eachChoice() {
		next, ok := impl.Do(p, m, c)
		if ok || !isNothing(next) || impl.CanDo(p, m, c) {
			t.Fatalf("%s: %v is done: %v, %v", what, c, next, ok)
		}
	}
}

// broken is a machine that is none, and why.
type broken struct {
	why string
	m   impl.Machine
}

// brokenBy returns machines that are none, each by one thing alone, of a program with so many instructions.
func brokenBy(m impl.Machine, many int) []broken {
	out := []broken{}
	none := clone(m)
	none.Threads = nil
	none.Locks = []int{-1, -1}
	out = append(out, broken{"no thread", none})
	more := clone(m)
	for len(more.Threads) < 5 {
		more.Threads = append(more.Threads, cloneThread(m.Threads[0]))
	}
	out = append(out, broken{"five threads", more})
	for i := range m.Threads {
		out = append(out, brokenThread(m, i, many)...)
	}
	for _, list := range brokenLists(m.Cells, 8, []int{math.MinInt, -1, 10000, math.MaxInt}) {
		x := clone(m)
		x.Cells = list
		out = append(out, broken{"cells", x})
	}
	for _, list := range brokenLists(m.Locks, 2, []int{math.MinInt, -2, len(m.Threads), 4, math.MaxInt}) {
		x := clone(m)
		x.Locks = list
		out = append(out, broken{"locks", x})
	}
	told := append(cloneInts(m.Told), 0)
	for _, n := range []int{math.MinInt, -1, 10000, math.MaxInt} {
		x := clone(m)
		x.Told = cloneInts(told)
		x.Told[len(told)/2] = n
		out = append(out, broken{"told", x})
	}
	long := clone(m)
	long.Told = make([]int, 1001)
	return append(out, broken{"too many told", long})
}

func brokenThread(m impl.Machine, i int, many int) []broken {
	out := []broken{}
	for _, n := range []int{math.MinInt, -1, many + 1, math.MaxInt} {
		x := clone(m)
		x.Threads[i].At = n
		out = append(out, broken{"place", x})
		y := clone(m)
		y.Threads[i].Stack = append([]int{0}, n)
		out = append(out, broken{"place of the stack", y})
	}
	for _, n := range []int{math.MinInt, -1, 3, math.MaxInt} {
		x := clone(m)
		x.Threads[i].State = n
		out = append(out, broken{"state", x})
	}
	for _, n := range []int{7, 8, 1000} {
		x := clone(m)
		x.Threads[i].Stack = make([]int, n)
		out = append(out, broken{"stack", x})
	}
	for _, list := range brokenLists(m.Threads[i].Regs, 4, []int{math.MinInt, -1, 10000, math.MaxInt}) {
		x := clone(m)
		x.Threads[i].Regs = list
		out = append(out, broken{"registers", x})
	}
	return out
}

// brokenLists returns a list with each of its numbers one that it may not be, and as long as it may not be.
func brokenLists(list []int, many int, bad []int) [][]int {
	out := [][]int{nil, list[:many-1], append(cloneInts(list), 0), make([]int, 1000)}
	for i := range list {
		for _, n := range bad {
			x := cloneInts(list)
			x[i] = n
			out = append(out, x)
		}
	}
	return out
}

// brokenPrograms returns programs that are none, for machines whose places they would have.
func brokenPrograms() []impl.Program {
	return []impl.Program{
		{},
		{Handler: -1},
		{Rows: rowsOf(61), Handler: -1},
		{Rows: rowsOf(1000), Handler: -1},
		{Rows: rowsOf(2), Handler: 2},
		{Rows: rowsOf(2), Handler: -2},
		{Rows: []impl.Code{{Op: 18}, {}}, Handler: -1},
		{Rows: []impl.Code{{Op: -1}, {}}, Handler: -1},
		{Rows: []impl.Code{{}, {A: 1}}, Handler: -1},
		{Rows: []impl.Code{{}, {Op: impl.OpJump, C: 2}}, Handler: -1},
		{Rows: []impl.Code{{}, {Op: impl.OpSet, C: 10000}}, Handler: -1},
	}
}

func TestConstantsOfStage2(t *testing.T) {
	got := []int{
		impl.ThreadRuns, impl.ThreadDone, impl.ThreadFails, impl.ThreadTop, impl.StackTop, impl.ToldTop, impl.ChoiceStep, impl.ChoiceSignal,
	}
	if !sameInts(got, []int{0, 1, 2, 4, 6, 1000, 0, 1}) {
		t.Fatal(got)
	}
}

// stepOf is a machine, a choice, and the machine behind it; all by hand.
type stepOf struct {
	what   string
	p      impl.Program
	m      impl.Machine
	c      impl.Choice
	behind impl.Machine
}

func lookAtSteps(t *testing.T, rows []stepOf) {
	t.Helper()
	for _, row := range rows {
		got, ok := impl.Do(row.p, row.m, row.c)
		if !ok || !equal(got, row.behind) {
			t.Errorf("%s: %v, %v, want %v", row.what, got, ok, row.behind)
		}
		if !impl.CanDo(row.p, row.m, row.c) {
			t.Errorf("%s: it cannot be done", row.what)
		}
	}
}

func TestP2RegistersBehindAStep(t *testing.T) {
	step := impl.Choice{}
	cells := impl.Machine{Threads: []impl.Thread{at(0, 7, 9999)}, Cells: []int{10, 11, 12, 13, 14, 15, 16, 17}, Locks: []int{-1, -1}}
	loaded := clone(cells)
	loaded.Threads[0] = at(1, 7, 9999, 16)
	same := clone(cells)
	same.Threads[0] = at(1, 11, 9999)
	one := func(text string) impl.Program { return program(t, -1, text) }
	lookAtSteps(t, []stepOf{
		{"set", one("set 3 9999"), machineOf(at(0, 1, 2, 3, 4)), step, machineOf(at(1, 1, 2, 3, 9999))},
		{"set 0", one("set 0 0"), machineOf(at(0, 1, 2, 3, 4)), step, machineOf(at(1, 0, 2, 3, 4))},
		{"move", one("move 1 2"), machineOf(at(0, 1, 2, 3, 4)), step, machineOf(at(1, 1, 3, 3, 4))},
		{"move to itself", one("move 1 1"), machineOf(at(0, 1, 2, 3, 4)), step, machineOf(at(1, 1, 2, 3, 4))},
		{"add", one("add 0 3"), machineOf(at(0, 9999, 0, 0, 9999)), step, machineOf(at(1, 9998, 0, 0, 9999))},
		{"add up to 0", one("add 0 3"), machineOf(at(0, 1, 0, 0, 9999)), step, machineOf(at(1, 0, 0, 0, 9999))},
		{"add to itself", one("add 2 2"), machineOf(at(0, 0, 0, 21)), step, machineOf(at(1, 0, 0, 42))},
		{"sub", one("sub 0 1"), machineOf(at(0, 9, 4)), step, machineOf(at(1, 5, 4))},
		{"sub below 0", one("sub 0 1"), machineOf(at(0, 0, 9999)), step, machineOf(at(1, 1, 9999))},
		{"sub from itself", one("sub 3 3"), machineOf(at(0, 0, 0, 0, 5)), step, machineOf(at(1))},
		{"mul", one("mul 1 2"), machineOf(at(0, 0, 9999, 9999)), step, machineOf(at(1, 0, 1, 9999))},
		{"mul by 0", one("mul 1 2"), machineOf(at(0, 0, 9999, 0)), step, machineOf(at(1))},
		{"less", one("less 0 1"), machineOf(at(0, 4, 5)), step, machineOf(at(1, 1, 5))},
		{"less than itself", one("less 0 0"), machineOf(at(0, 4)), step, machineOf(at(1, 0))},
		{"not less", one("less 0 1"), machineOf(at(0, 6, 5)), step, machineOf(at(1, 0, 5))},
		{"load", one("load 2 1 7"), cells, step, loaded},
		{"load by the register that is set", one("load 0 0 2"), cells, step, same},
		{"ask", one("ask 2"), machineOf(at(0, 1, 2, 3, 4)), impl.Choice{Reply: 9999}, machineOf(at(1, 1, 2, 9999, 4))},
		{"ask, and 0 is answered", one("ask 2"), machineOf(at(0, 1, 2, 3, 4)), step, machineOf(at(1, 1, 2, 0, 4))},
	})
}

func TestP2PlacesBehindAStep(t *testing.T) {
	step := impl.Choice{}
	calls := program(t, -1, "jump 3", "call 3", "zero 1 0", "ret", "halt", "call 5")
	full := []int{1, 2, 3, 4, 5, 6}
	lookAtSteps(t, []stepOf{
		{"jump", calls, machineOf(at(0)), step, machineOf(at(3))},
		{"call", calls, machineOf(withStack(at(1), 6)), step, machineOf(withStack(at(3), 6, 2))},
		{"call as deep as it goes", calls, machineOf(withStack(at(1), full[:5]...)), step, machineOf(withStack(at(3), 1, 2, 3, 4, 5, 2))},
		{"call too deep", calls, machineOf(withStack(at(1), full...)), step, machineOf(withState(withStack(at(1), full...), 2))},
		{"call at the end", calls, machineOf(at(5)), step, machineOf(withStack(at(5), 6))},
		{"zero", calls, machineOf(at(2, 5, 0, 5, 5)), step, machineOf(at(0, 5, 0, 5, 5))},
		{"not zero", calls, machineOf(at(2, 0, 1)), step, machineOf(at(3, 0, 1))},
		{"ret", calls, machineOf(withStack(at(3), 5, 2)), step, machineOf(withStack(at(2), 5))},
		{"ret to behind the end", calls, machineOf(withStack(at(3), 6)), step, machineOf(at(6))},
		{"ret to nowhere", calls, machineOf(at(3)), step, machineOf(withState(at(3), 2))},
		{"halt", calls, machineOf(withStack(at(4, 1), 2)), step, machineOf(withState(withStack(at(4, 1), 2), 1))},
		{"behind the end", calls, machineOf(withStack(at(6, 1), 2)), step, machineOf(withState(withStack(at(6, 1), 2), 2))},
		{"to behind the end", program(t, -1, "set 0 0"), machineOf(at(0)), step, machineOf(at(1))},
	})
}

func TestP2CellsLocksToldAndThreadsBehindAStep(t *testing.T) {
	step := impl.Choice{}
	second := impl.Choice{Who: 1}
	p := program(t, -1, "store 1 2 7", "lock 1", "free 1", "tell 3", "begin 4", "free 0")
	three := []impl.Thread{at(4, 1, 2, 3, 4), at(0), withState(at(5), 1)}
	begun := []impl.Thread{withStack(at(5, 1, 2, 3, 4), 3), at(0), withState(at(5), 1), at(4, 1, 2, 3, 4)}
	four := append(append([]impl.Thread{}, three...), withState(at(6), 2))
	failed := append([]impl.Thread{withState(at(4, 1, 2, 3, 4), 2)}, four[1:]...)
	told := withTold(machineOf(at(3, 0, 0, 0, 9)), 999)
	all := withTold(machineOf(at(4, 0, 0, 0, 9)), 1000)
	all.Told[999] = 9
	ahead := append([]impl.Thread{withStack(three[0], 3)}, three[1:]...)
	lookAtSteps(t, []stepOf{
		{"store", p, machineOf(at(0, 0, 55, 10)), step, withCell(machineOf(at(1, 0, 55, 10)), 1, 55)},
		{"store 0", p, withCell(machineOf(at(0)), 7, 3), step, machineOf(at(1))},
		{"lock", p, withLocks(machineOf(at(1), at(1)), 0, -1), second, withLocks(machineOf(at(1), at(2)), 0, 1)},
		{"free", p, withLocks(machineOf(at(1), at(2)), 0, 1), second, withLocks(machineOf(at(1), at(3)), 0, -1)},
		{"free what nobody holds", p, withLocks(machineOf(at(2)), 0, -1), step, withLocks(machineOf(withState(at(2), 2)), 0, -1)},
		{"free what another one holds", p, withLocks(machineOf(at(1), at(2)), -1, 0), second, withLocks(machineOf(at(1), withState(at(2), 2)), -1, 0)},
		{"tell the last that there is room for", p, told, step, all},
		{"begin", p, machineOf(ahead...), step, machineOf(begun...)},
		{"begin one too many", p, machineOf(four...), step, machineOf(failed...)},
		{"begin with a lock held", p, withLocks(machineOf(at(4, 8)), 0, -1), step, withLocks(machineOf(at(5, 8), at(4, 8)), 0, -1)},
		{"free at the end", p, withLocks(machineOf(at(5)), 0, -1), step, machineOf(at(6))},
	})
}

func TestP2StepsAreAsTheDocumentTells(t *testing.T) {
	d := dice{seed: 2}
	made := make([]int, 18)
	for i := 0; i < 60000; i++ {
		p := d.program()
		m := d.machine(p)
		c := d.choice()
		doneAsExpected(t, p, m, c)
		if code, ok := instrExpected(p, m, c.Who); ok && canExpected(p, m, c) && c.Kind == impl.ChoiceStep {
			made[code.Op]++
		}
	}
	for op, n := range made {
		if n < 50 {
			t.Errorf("instruction %d was done only %d times", op, n)
		}
	}
}

// leadsToAMachine fails if a step does more than promise 2 lets it.
func leadsToAMachine(t *testing.T, p impl.Program, m impl.Machine, c impl.Choice, next impl.Machine) {
	t.Helper()
	if !impl.MachineOk(p, next) || !machineExpected(p, next) {
		t.Fatalf("%v leads from %v to %v, which is no machine of %v", c, m, next, p)
	}
	if len(next.Told) < len(m.Told) || len(next.Told) > len(m.Told)+1 || !sameInts(next.Told[:len(m.Told)], m.Told) {
		t.Fatalf("%v: from told %v to %v", c, m.Told, next.Told)
	}
	more := len(next.Threads) - len(m.Threads)
	if more < 0 || more > 1 {
		t.Fatalf("%v: from %d threads to %d", c, len(m.Threads), len(next.Threads))
	}
	for i := range m.Threads {
		if i != c.Who && !equalThreads(m.Threads[i], next.Threads[i]) {
			t.Fatalf("%v: thread %d is another one: %v, %v", c, i, m.Threads[i], next.Threads[i])
		}
	}
	if others(m.Cells, next.Cells) > 1 || others(m.Locks, next.Locks) > 1 {
		t.Fatalf("%v: cells %v, %v, locks %v, %v", c, m.Cells, next.Cells, m.Locks, next.Locks)
	}
}

// others returns how many numbers of two lists that are as long are others.
func others(a []int, b []int) int {
	n := 0
	for i := range a {
		if a[i] != b[i] {
			n++
		}
	}
	return n
}

func TestP2NothingOfOtherThreadsChanges(t *testing.T) {
	d := dice{seed: 3}
	done := 0
	for i := 0; i < 30000; i++ {
		p := d.program()
		m := d.machine(p)
		c := d.choice()
		next, ok := impl.Do(p, m, c)
		if ok {
			done++
			leadsToAMachine(t, p, m, c, next)
		}
	}
	if done < 5000 {
		t.Fatalf("only %d choices were made", done)
	}
}

func TestP2StepAfterStepFromTheFirstMachineOn(t *testing.T) {
	d := dice{seed: 4}
	deep, many, told := 0, 0, 0
	for i := 0; i < 400; i++ {
		p := d.program()
		m := impl.MachineNew()
		for k := 0; k < 300; k++ {
			c := impl.Choice{Who: d.below(len(m.Threads)), Kind: d.oneIn(8)}
			if code, ok := impl.InstrOf(p, m, c.Who); ok && code.Op == impl.OpAsk && c.Kind == impl.ChoiceStep {
				c.Reply = d.word()
			}
			next, ok := doneAsExpected(t, p, m, c)
			if ok {
				leadsToAMachine(t, p, m, c, next)
				m = next
			}
			deep = max(deep, len(m.Threads[0].Stack))
		}
		many = max(many, len(m.Threads))
		told = max(told, len(m.Told))
	}
	if deep != 6 || many != 4 || told < 10 {
		t.Fatalf("runs came only to %d places of a stack, %d threads, %d numbers told", deep, many, told)
	}
}

func TestP2AThreadTellsUntilThereIsNoRoom(t *testing.T) {
	p := program(t, 2, "tell 0", "jump 0", "halt")
	m := impl.MachineNew()
	steps := 0
	for ; steps < 5000 && impl.CanDo(p, m, impl.Choice{}); steps++ {
		m, _ = impl.Do(p, m, impl.Choice{})
	}
	if steps != 2000 || len(m.Told) != 1000 || !impl.Stuck(p, m) || !impl.MachineOk(p, m) {
		t.Fatalf("%d steps, %d told, stuck %v", steps, len(m.Told), impl.Stuck(p, m))
	}
	m, ok := impl.Do(p, m, impl.Choice{Kind: impl.ChoiceSignal})
	if !ok || m.Threads[0].At != 2 || !sameInts(m.Threads[0].Stack, []int{0}) || impl.Stuck(p, m) {
		t.Fatalf("behind a signal: %v, %v", m, ok)
	}
}

func TestP157OverWhateverProgramsAndMachines(t *testing.T) {
	d := dice{seed: 5}
	done, none := 0, 0
	for i := 0; i < 60000; i++ {
		p := d.mangledProgram(d.program())
		m := d.mangledMachine(d.machine(impl.Program{Rows: rowsOf(max(len(p.Rows), 1))}))
		if impl.MachineOk(p, m) != machineExpected(p, m) {
			t.Fatalf("MachineOk(%v, %v) = %v", p, m, impl.MachineOk(p, m))
		}
		if !machineExpected(p, m) {
			none++
		}
		if impl.Stuck(p, m) != stuckExpected(p, m) {
			t.Fatalf("Stuck(%v, %v) = %v", p, m, impl.Stuck(p, m))
		}
		c := d.choice()
		code, ok := impl.InstrOf(p, m, c.Who)
		if want, there := instrExpected(p, m, c.Who); ok != there || code != want {
			t.Fatalf("InstrOf(%v, %v, %d) = %v, %v", p, m, c.Who, code, ok)
		}
		if next, ok := doneAsExpected(t, p, m, c); ok {
			done++
			leadsToAMachine(t, p, m, c, next)
		}
	}
	if done < 5000 || none < 5000 {
		t.Fatalf("only %d choices were made, and only %d machines were none", done, none)
	}
}

func TestP157OverWhateverRows(t *testing.T) {
	d := dice{seed: 6}
	numbers := append(fieldsNear(), 0, 0, 1, 1, 2, 3)
	list := func() []int {
		out := []int{}
		for i := d.oneOf([]int{0, 1, 2, 3, 4, 6, 7, 8, 9, 999, 1000}); i > 0; i-- {
			out = append(out, d.oneOf(numbers))
		}
		return out
	}
	for i := 0; i < 3000; i++ {
		p := impl.Program{Handler: d.oneOf(numbers)}
		for k := d.oneOf([]int{0, 1, 2, 60, 61, 1000}); k > 0; k-- {
			p.Rows = append(p.Rows, impl.Code{Op: d.oneOf(numbers), A: d.oneOf(numbers), B: d.oneOf(numbers), C: d.oneOf(numbers)})
		}
		m := impl.Machine{Cells: list(), Locks: list(), Told: list()}
		for k := d.oneOf([]int{0, 1, 2, 4, 5, 20}); k > 0; k-- {
			m.Threads = append(m.Threads, impl.Thread{At: d.oneOf(numbers), Regs: list(), Stack: list(), State: d.oneOf(numbers)})
		}
		doneAsExpected(t, p, m, impl.Choice{Who: d.oneOf(numbers), Kind: d.oneOf(numbers), Reply: d.oneOf(numbers)})
		if impl.MachineOk(p, m) != machineExpected(p, m) || impl.Stuck(p, m) != stuckExpected(p, m) || !impl.SameMachine(m, clone(m)) {
			t.Fatalf("%v, %v", p, m)
		}
	}
}

func TestP157ProgramsOfTexts(t *testing.T) {
	d := dice{seed: 7}
	names := []string{}
	for _, u := range usesByOp() {
		names = append(names, u.name)
	}
	done := 0
	for i := 0; i < 300; i++ {
		p := impl.Program{Handler: -1}
		for k := 0; k < 1000 && len(p.Rows) < 60; k++ {
			words := []string{names[d.below(len(names))]}
			for n := d.below(4); n > 0; n-- {
				words = append(words, []string{"0", "1"}[d.below(2)])
			}
			if c, ok := impl.ReadCode(strings.Join(words, " ")); ok {
				p.Rows = append(p.Rows, c)
			}
		}
		m := impl.MachineNew()
		for k := 0; k < 100; k++ {
			c := impl.Choice{Who: d.below(4)}
			next, ok := doneAsExpected(t, p, m, c)
			if ok {
				done++
				leadsToAMachine(t, p, m, c, next)
				m = next
			}
		}
	}
	if done < 1000 {
		t.Fatalf("only %d choices were made", done)
	}
}

func TestP157BrokenMachinesAreRefused(t *testing.T) {
	p := program(t, 0, "halt", "lock 0", "ask 1", "jump 0")
	machines := []impl.Machine{
		impl.MachineNew(),
		machineOf(at(1), at(2), withState(at(4), 1)),
		withLocks(machineOf(at(1), at(1), at(1), at(1)), 0, 3),
		withTold(withLocks(machineOf(withStack(at(0, 9999, 9999, 9999, 9999), 4, 4, 4, 4, 4, 4)), 0, 0), 1000),
	}
	for _, m := range machines {
		if !impl.MachineOk(p, m) {
			t.Fatalf("%v is no machine", m)
		}
		for _, x := range brokenBy(m, 4) {
			refused(t, x.why, p, x.m)
		}
	}
}

func TestP157BrokenProgramsAreRefused(t *testing.T) {
	for _, p := range brokenPrograms() {
		refused(t, "the machine at first of a program that is none", p, impl.MachineNew())
		refused(t, "two threads of a program that is none", p, machineOf(at(0), at(1)))
	}
	// The second thread waits for a lock, and would be stuck if this were a program.
	bad := program(t, -1, "lock 0", "halt")
	bad.Rows[1].A = 1
	refused(t, "a lock that is held", bad, withLocks(machineOf(at(0)), 0, -1))
}

func TestP61AMachineIsOneWithNothingTold(t *testing.T) {
	d := dice{seed: 8}
	for i := 0; i < 3000; i++ {
		p := d.program()
		m := d.machine(p)
		if !impl.MachineOk(p, m) {
			t.Fatalf("%v is no machine of %v", m, p)
		}
		less := clone(m)
		less.Told = nil
		if !impl.MachineOk(p, less) {
			t.Fatalf("%v with nothing told is no machine of %v", m, p)
		}
		less.Told = []int{}
		if !impl.MachineOk(p, less) {
			t.Fatalf("%v with nothing told is no machine of %v", m, p)
		}
	}
}

func TestP61MachinesAtTheirEdges(t *testing.T) {
	p := program(t, -1, "halt", "halt")
	for many := 0; many <= 6; many++ {
		threads := []impl.Thread{}
		for i := 0; i < many; i++ {
			threads = append(threads, at(2, 9999))
		}
		m := machineOf(threads...)
		if impl.MachineOk(p, m) != (many >= 1 && many <= 4) {
			t.Errorf("%d threads: %v", many, impl.MachineOk(p, m))
		}
		for lock := -3; lock <= 5; lock++ {
			for which := 0; which < 2; which++ {
				x := clone(m)
				x.Locks[which] = lock
				want := many >= 1 && many <= 4 && lock >= -1 && lock < many
				if impl.MachineOk(p, x) != want {
					t.Errorf("%d threads, and lock %d held by %d: %v", many, which, lock, !want)
				}
			}
		}
	}
	for place := -2; place <= 5; place++ {
		want := place >= 0 && place <= 2
		if impl.MachineOk(p, machineOf(at(place))) != want || impl.MachineOk(p, machineOf(withStack(at(0), 1, place))) != want {
			t.Errorf("place %d", place)
		}
	}
	for deep := 0; deep <= 20; deep++ {
		if impl.MachineOk(p, machineOf(withStack(at(0), make([]int, deep)...))) != (deep <= 6) {
			t.Errorf("%d places on the stack", deep)
		}
	}
	for state := -2; state <= 4; state++ {
		if impl.MachineOk(p, machineOf(withState(at(0), state))) != (state >= 0 && state <= 2) {
			t.Errorf("state %d", state)
		}
	}
	for _, many := range []int{0, 1, 999, 1000, 1001, 2000} {
		if impl.MachineOk(p, withTold(machineOf(at(0)), many)) != (many <= 1000) {
			t.Errorf("%d told", many)
		}
	}
}

func TestP62TheMachineAtFirst(t *testing.T) {
	want := machineOf(at(0, 0, 0, 0, 0))
	if m := impl.MachineNew(); !equal(m, want) {
		t.Fatalf("the machine at first is %v", m)
	}
	for _, p := range somePrograms() {
		m := impl.MachineNew()
		ok := impl.ProgramOk(p)
		if impl.MachineOk(p, m) != ok || impl.Stuck(p, m) || impl.CanDo(p, m, impl.Choice{}) != ok {
			t.Fatalf("the machine at first of %v: %v, stuck %v", p, impl.MachineOk(p, m), impl.Stuck(p, m))
		}
	}
	for _, c := range someCodes() {
		if usesByOp()[c.Op].place && c.C > 0 {
			continue
		}
		p := impl.Program{Rows: []impl.Code{c}, Handler: 0}
		m := impl.MachineNew()
		if !impl.MachineOk(p, m) || impl.Stuck(p, m) || !impl.CanDo(p, m, impl.Choice{}) {
			t.Fatalf("the machine at first is none of %v, or is stuck", p)
		}
	}
}

func TestP63MachinesAreEqualBothWays(t *testing.T) {
	d := dice{seed: 9}
	for i := 0; i < 2000; i++ {
		p := d.program()
		a := d.machine(p)
		b := d.machine(p)
		if d.below(3) == 0 {
			b = d.mangledMachine(a)
		}
		want := equal(a, b)
		if impl.SameMachine(a, b) != want || impl.SameMachine(b, a) != want {
			t.Fatalf("SameMachine(%v, %v), which is %v", a, b, want)
		}
		if !impl.SameMachine(a, a) || !impl.SameMachine(a, clone(a)) || !impl.SameMachine(b, clone(b)) {
			t.Fatalf("%v or %v is another one than itself", a, b)
		}
	}
}

// changedOnce returns machines that differ from one in one number, or in how long one list is.
func changedOnce(m impl.Machine) []impl.Machine {
	out := []impl.Machine{}
	lists := func(x *impl.Machine) []*[]int {
		all := []*[]int{&x.Cells, &x.Locks, &x.Told}
		for i := range x.Threads {
			all = append(all, &x.Threads[i].Regs, &x.Threads[i].Stack)
		}
		return all
	}
	for i, list := range lists(&m) {
		for k := range *list {
			x := clone(m)
			(*lists(&x)[i])[k]++
			out = append(out, x)
		}
		longer := clone(m)
		*lists(&longer)[i] = append(*lists(&longer)[i], 0)
		out = append(out, longer)
	}
	for i := range m.Threads {
		x := clone(m)
		x.Threads[i].At++
		y := clone(m)
		y.Threads[i].State++
		out = append(out, x, y)
	}
	more := clone(m)
	more.Threads = append(more.Threads, impl.Thread{})
	return append(out, more)
}

func TestP63OneNumberMakesAnotherMachine(t *testing.T) {
	machines := []impl.Machine{
		{},
		impl.MachineNew(),
		withTold(withLocks(machineOf(withStack(at(0, 1, 2), 4, 5), at(1), withState(at(2), 2)), 0, -1), 3),
		{Threads: []impl.Thread{{At: math.MinInt, State: 9, Stack: make([]int, 9)}}, Cells: []int{-1}, Told: []int{10000}},
	}
	for _, m := range machines {
		if !impl.SameMachine(m, clone(m)) {
			t.Fatalf("%v is another one than itself", m)
		}
		for _, x := range changedOnce(m) {
			if impl.SameMachine(m, x) || impl.SameMachine(x, m) {
				t.Fatalf("%v is the same as %v", m, x)
			}
		}
	}
}

func TestP63NilAndEmptyAreTheSame(t *testing.T) {
	a := impl.Machine{Threads: []impl.Thread{{}}}
	b := impl.Machine{Threads: []impl.Thread{{Regs: []int{}, Stack: []int{}}}, Cells: []int{}, Locks: []int{}, Told: []int{}}
	if !impl.SameMachine(a, b) || !impl.SameMachine(b, a) || !impl.SameMachine(impl.Machine{}, impl.Machine{Threads: []impl.Thread{}}) {
		t.Fatal("a nil slice is another one than an empty one")
	}
}

func TestP64TheInstructionIsThatOfTheProgram(t *testing.T) {
	d := dice{seed: 10}
	there := 0
	for i := 0; i < 5000; i++ {
		p := d.program()
		m := d.machine(p)
		for _, who := range []int{math.MinInt, -1, 0, 1, 2, 3, 4, math.MaxInt} {
			want, ok := instrExpected(p, m, who)
			got, is := impl.InstrOf(p, m, who)
			if is != ok || got != want {
				t.Fatalf("thread %d of %v is at %v, %v, want %v, %v", who, m, got, is, want, ok)
			}
			if ok {
				there++
			}
		}
	}
	if there < 1000 {
		t.Fatalf("only %d instructions were there", there)
	}
}

func TestP64InstructionsByHand(t *testing.T) {
	p := program(t, -1, "set 1 5", "tell 2")
	m := machineOf(at(1), at(2), withState(at(0), 1), withState(at(0), 2))
	if c, ok := impl.InstrOf(p, m, 0); !ok || c != p.Rows[1] {
		t.Errorf("the first thread is at %v, %v", c, ok)
	}
	for _, who := range []int{-1, 1, 2, 3, 4} {
		if c, ok := impl.InstrOf(p, m, who); ok || c != (impl.Code{}) {
			t.Errorf("thread %d is at %v, %v", who, c, ok)
		}
	}
}

func TestP65TheCellGoesRoundWithTheRegister(t *testing.T) {
	for _, op := range []int{impl.OpLoad, impl.OpStore} {
		for b := 0; b < 4; b++ {
			for c := 0; c < 8; c++ {
				code := impl.Code{Op: op, A: 3 - b, B: b, C: c}
				for n := 0; n < 10000; n++ {
					regs := []int{9999, 9999, 9999, 9999}
					regs[b] = n
					cell := impl.CellOf(code, regs)
					if cell != (n+c)%8 || cell < 0 || cell >= 8 {
						t.Fatalf("CellOf(%v, %v) = %d", code, regs, cell)
					}
				}
			}
		}
	}
}

func TestP65NoCellOfOthers(t *testing.T) {
	good := []int{1, 2, 3, 4}
	for op := -1; op <= 18; op++ {
		want := -1
		if op == impl.OpLoad || op == impl.OpStore {
			want = 1
		}
		if got := impl.CellOf(impl.Code{Op: op}, good); got != want {
			t.Errorf("CellOf of instruction %d is %d", op, got)
		}
	}
	for _, op := range []int{impl.OpLoad, impl.OpStore} {
		for _, n := range fieldsNear() {
			for i, code := range []impl.Code{{Op: op, A: n}, {Op: op, B: n}, {Op: op, C: n}} {
				within := n >= 0 && n < []int{4, 4, 8}[i]
				if (impl.CellOf(code, good) >= 0) != within || !within && impl.CellOf(code, good) != -1 {
					t.Errorf("CellOf(%v) = %d", code, impl.CellOf(code, good))
				}
			}
		}
		for _, regs := range brokenLists(good, 4, []int{math.MinInt, -1, 10000, math.MaxInt}) {
			if got := impl.CellOf(impl.Code{Op: op}, regs); got != -1 {
				t.Errorf("CellOf with registers %v is %d", regs, got)
			}
		}
	}
}

func TestP66AChoiceCanBeMadeExactlyIfItIsDone(t *testing.T) {
	d := dice{seed: 11}
	can := 0
	for i := 0; i < 800; i++ {
		p := d.program()
		m := d.machine(p)
		for _, c := range eachChoice() {
			next, ok := doneAsExpected(t, p, m, c)
			if impl.CanDo(p, m, c) != ok || !ok && !isNothing(next) {
				t.Fatalf("%v can be made: %v, and is done: %v, %v", c, impl.CanDo(p, m, c), next, ok)
			}
			if ok && (c.Who < 0 || c.Who >= len(m.Threads) || m.Threads[c.Who].State != 0) {
				t.Fatalf("%v is done in %v", c, m)
			}
			if ok {
				can++
			}
		}
	}
	if can < 2000 {
		t.Fatalf("only %d choices could be made", can)
	}
}

func TestP66AnswersWhereNothingIsAsked(t *testing.T) {
	for _, c := range someCodes() {
		if usesByOp()[c.Op].place && c.C > 0 {
			continue
		}
		p := impl.Program{Rows: []impl.Code{c}, Handler: 0}
		for _, reply := range fieldsNear() {
			asked := c.Op == impl.OpAsk && reply >= 0 && reply < 10000
			if got := impl.CanDo(p, impl.MachineNew(), impl.Choice{Reply: reply}); got != (asked || reply == 0) {
				t.Errorf("%v with the answer %d: %v", c, reply, got)
			}
			if got := impl.CanDo(p, impl.MachineNew(), impl.Choice{Kind: 1, Reply: reply}); got != (reply == 0) {
				t.Errorf("a signal at %v with the answer %d: %v", c, reply, got)
			}
			if got := impl.CanDo(p, machineOf(at(1)), impl.Choice{Reply: reply}); got != (reply == 0) {
				t.Errorf("behind the end with the answer %d: %v", reply, got)
			}
		}
	}
}

func TestP66ChoicesByHand(t *testing.T) {
	p := program(t, 1, "lock 1", "tell 0", "call 0", "ret", "free 0", "begin 0")
	full := []int{0, 0, 0, 0, 0, 0}
	four := []impl.Thread{at(5), at(0), at(0), at(0)}
	rows := []struct {
		what string
		m    impl.Machine
		c    impl.Choice
		can  bool
	}{
		{"a lock that nobody holds", withLocks(machineOf(at(0)), 0, -1), impl.Choice{}, true},
		{"a lock that another one holds", withLocks(machineOf(at(0), at(0)), -1, 1), impl.Choice{}, false},
		{"a lock that it holds itself", withLocks(machineOf(at(0)), -1, 0), impl.Choice{}, false},
		{"a lock that one holds that is done", withLocks(machineOf(at(0), withState(at(0), 1)), -1, 1), impl.Choice{}, false},
		{"a lock that one holds that has failed", withLocks(machineOf(at(0), withState(at(0), 2)), -1, 1), impl.Choice{}, false},
		{"999 told", withTold(machineOf(at(1)), 999), impl.Choice{}, true},
		{"1000 told", withTold(machineOf(at(1)), 1000), impl.Choice{}, false},
		{"1000 told, and nothing to tell", withTold(machineOf(at(0)), 1000), impl.Choice{}, true},
		{"a stack that is full", machineOf(withStack(at(2), full...)), impl.Choice{}, true},
		{"a stack that is full, and a signal", machineOf(withStack(at(2), full...)), impl.Choice{Kind: 1}, false},
		{"a stack that is nearly full, and a signal", machineOf(withStack(at(2), full[:5]...)), impl.Choice{Kind: 1}, true},
		{"nowhere to come back to", machineOf(at(3)), impl.Choice{}, true},
		{"a lock to free that it does not hold", machineOf(at(4)), impl.Choice{}, true},
		{"too many threads", machineOf(four...), impl.Choice{}, true},
		{"behind the end", machineOf(at(6)), impl.Choice{}, true},
		{"done", machineOf(withState(at(3), 1)), impl.Choice{}, false},
		{"failed", machineOf(withState(at(3), 2)), impl.Choice{}, false},
		{"no such thread", machineOf(at(3)), impl.Choice{Who: 1}, false},
		{"no such thread", machineOf(at(3)), impl.Choice{Who: -1}, false},
		{"no such kind", machineOf(at(3)), impl.Choice{Kind: 2}, false},
		{"no such kind", machineOf(at(3)), impl.Choice{Kind: -1}, false},
	}
	for _, row := range rows {
		_, ok := impl.Do(p, row.m, row.c)
		if impl.CanDo(p, row.m, row.c) != row.can || ok != row.can {
			t.Errorf("%s: %v, %v", row.what, impl.CanDo(p, row.m, row.c), ok)
		}
	}
	if impl.CanDo(program(t, -1, "halt"), impl.MachineNew(), impl.Choice{Kind: 1}) {
		t.Error("a signal can be got where there is no handler")
	}
}

func TestP67SignalsDoNotWait(t *testing.T) {
	p := program(t, 3, "lock 0", "tell 1", "ask 2", "halt")
	signal := impl.Choice{Who: 1, Kind: impl.ChoiceSignal}
	for place := 0; place <= 4; place++ {
		m := withTold(withLocks(machineOf(at(0), withStack(at(place, 5, 6, 7, 8), 2)), 0, 1), 1000)
		want := withTold(withLocks(machineOf(at(0), withStack(at(3, 5, 6, 7, 8), 2, place)), 0, 1), 1000)
		next, ok := impl.Do(p, m, signal)
		if !ok || !equal(next, want) || !impl.CanDo(p, m, signal) {
			t.Errorf("a signal at %d: %v, %v", place, next, ok)
		}
	}
}

func TestP67NothingForThoseThatAreDoneOrHaveFailed(t *testing.T) {
	d := dice{seed: 12}
	looked := 0
	for i := 0; i < 1000; i++ {
		p := d.program()
		p.Handler = 0
		m := d.machine(p)
		for who, thread := range m.Threads {
			signal := impl.CanDo(p, m, impl.Choice{Who: who, Kind: impl.ChoiceSignal})
			if signal != (thread.State == 0 && len(thread.Stack) < 6) {
				t.Fatalf("thread %d of %v may get a signal: %v", who, m, signal)
			}
			if thread.State == 0 {
				continue
			}
			looked++
			for _, c := range eachChoice() {
				c.Who = who
				if next, ok := impl.Do(p, m, c); ok || !isNothing(next) || impl.CanDo(p, m, c) {
					t.Fatalf("thread %d of %v does %v: %v", who, m, c, next)
				}
			}
			if c, ok := impl.InstrOf(p, m, who); ok || c != (impl.Code{}) {
				t.Fatalf("thread %d of %v is at %v", who, m, c)
			}
		}
	}
	if looked < 300 {
		t.Fatalf("only %d threads were looked at", looked)
	}
}

func TestP68StuckByHand(t *testing.T) {
	p := program(t, 3, "lock 0", "lock 1", "tell 0", "ask 0", "ret", "free 0")
	done := withState(at(0), 1)
	failed := withState(at(0), 2)
	rows := []struct {
		what  string
		m     impl.Machine
		stuck bool
	}{
		{"its own lock", withLocks(machineOf(at(0)), 0, -1), true},
		{"each the lock of the other one", withLocks(machineOf(at(1), at(0)), 0, 1), true},
		{"locks of one that is done", withLocks(machineOf(at(0), done), 1, -1), true},
		{"locks of one that has failed", withLocks(machineOf(failed, at(0)), 0, -1), true},
		{"no room to tell", withTold(machineOf(at(2)), 1000), true},
		{"a lock, and no room to tell", withTold(withLocks(machineOf(at(0), at(2), done, failed), 3, -1), 1000), true},
		{"room to tell", withTold(machineOf(at(2)), 999), false},
		{"a lock that is free", withLocks(machineOf(at(0), at(1)), 0, -1), false},
		{"one that asks", withLocks(machineOf(at(0), at(3)), 0, -1), false},
		{"one that will fail", withLocks(machineOf(at(0), at(4)), 0, -1), false},
		{"one that frees a lock that it does not hold", withLocks(machineOf(at(0), at(5)), 0, -1), false},
		{"one behind the end", withLocks(machineOf(at(0), at(6)), 0, -1), false},
		{"all are done", withLocks(machineOf(done, done), 0, -1), false},
		{"all have failed", withLocks(machineOf(failed), 0, -1), false},
	}
	for _, row := range rows {
		if got := impl.Stuck(p, row.m); got != row.stuck {
			t.Errorf("%s: %v", row.what, got)
		}
	}
}

func TestP68AllThatRunWait(t *testing.T) {
	p := program(t, 0, "lock 0", "lock 1", "tell 0", "ask 0", "ret", "free 0", "halt")
	d := dice{seed: 13}
	stuck := 0
	for i := 0; i < 20000; i++ {
		m := d.machine(p)
		for k := range m.Threads {
			m.Threads[k].At = d.oneOf([]int{0, 0, 0, 1, 1, 1, 2, 2, 2, 3, 4, 5, 6, 7})
		}
		want := stuckExpected(p, m)
		if impl.Stuck(p, m) != want {
			t.Fatalf("Stuck(%v) = %v", m, !want)
		}
		goes := false
		for who := range m.Threads {
			goes = goes || impl.CanDo(p, m, impl.Choice{Who: who})
		}
		if goes && want {
			t.Fatalf("%v is stuck, and goes on", m)
		}
		if want {
			stuck++
		}
	}
	if stuck < 500 {
		t.Fatalf("only %d machines were stuck", stuck)
	}
}

// roomy returns a list with room behind its end in which a write would be seen.
func roomy(list []int) []int {
	out := append(make([]int, 0, len(list)+3), list...)
	copy(out[len(out):cap(out)], []int{-77, -78, -79})
	return out
}

func roomyMachine(m impl.Machine) impl.Machine {
	out := impl.Machine{Cells: roomy(m.Cells), Locks: roomy(m.Locks), Told: roomy(m.Told)}
	out.Threads = make([]impl.Thread, 0, len(m.Threads)+2)
	for _, x := range m.Threads {
		out.Threads = append(out.Threads, impl.Thread{At: x.At, Regs: roomy(x.Regs), Stack: roomy(x.Stack), State: x.State})
	}
	return out
}

// listsOf returns all rows of numbers of machines, each with the room behind its end.
func listsOf(machines ...impl.Machine) [][]int {
	out := [][]int{}
	for _, m := range machines {
		out = append(out, m.Cells, m.Locks, m.Told)
		for _, x := range m.Threads {
			out = append(out, x.Regs, x.Stack)
		}
	}
	for i := range out {
		out[i] = out[i][:cap(out[i])]
	}
	return out
}

// unharmed reports whether a machine and the room behind its lists are as roomyMachine left them.
func unharmed(m impl.Machine, was impl.Machine) bool {
	for _, x := range m.Threads[len(m.Threads):cap(m.Threads)] {
		if x.At != 0 || x.State != 0 || len(x.Regs) != 0 || len(x.Stack) != 0 {
			return false
		}
	}
	for _, list := range listsOf(m) {
		if !sameInts(list[len(list)-3:], []int{-77, -78, -79}) {
			return false
		}
	}
	return equal(m, was)
}

// scribbled writes another number into each list of machines and its room, and reports whether one list holds the number of another one.
func scribbled(machines ...impl.Machine) bool {
	lists := listsOf(machines...)
	for i, list := range lists {
		for k := range list {
			list[k] = -100 - i
		}
	}
	for i, m := range machines {
		for k := range m.Threads[:cap(m.Threads)] {
			m.Threads[:cap(m.Threads)][k].At = -100 - i
		}
	}
	for i, m := range machines {
		for _, x := range m.Threads {
			if x.At != -100-i {
				return true
			}
		}
	}
	for i, list := range lists {
		if !within(list, -100-i, -100-i) {
			return true
		}
	}
	return false
}

func TestResultsOfStage2AreNew(t *testing.T) {
	d := dice{seed: 14}
	for i := 0; i < 10000; i++ {
		p := d.program()
		was := d.machine(p)
		c := impl.Choice{Who: d.below(len(was.Threads)), Kind: d.oneIn(4)}
		m := roomyMachine(was)
		impl.MachineOk(p, m)
		impl.CanDo(p, m, c)
		impl.Stuck(p, m)
		impl.SameMachine(m, was)
		impl.InstrOf(p, m, c.Who)
		first, ok := impl.Do(p, m, c)
		second, again := impl.Do(p, m, c)
		if !unharmed(m, was) {
			t.Fatalf("%v was written to: %v", was, m)
		}
		if ok != again || !equal(first, second) {
			t.Fatalf("the same choice leads to %v and to %v", first, second)
		}
		if !ok {
			continue
		}
		if scribbled(first, second) || !unharmed(m, was) {
			t.Fatalf("behind %v in %v lists share memory", c, was)
		}
	}
	if scribbled(impl.MachineNew(), impl.MachineNew()) {
		t.Fatal("two machines at first share memory")
	}
}

func TestProgramsAreNotWrittenToByStage2(t *testing.T) {
	d := dice{seed: 15}
	for i := 0; i < 2000; i++ {
		p := d.program()
		rows := append([]impl.Code{}, p.Rows...)
		impl.Do(p, d.machine(p), d.choice())
		for k := range rows {
			if rows[k] != p.Rows[k] {
				t.Fatalf("row %d was written to: %v", k, p.Rows[k])
			}
		}
	}
}

func TestWayOfTheMachineIsAFunction(t *testing.T) {
	for _, line := range writesToArguments(newSource(t)) {
		t.Error(line)
	}
	bodies := []string{
		"func f(a []int) { a[0] = 1 }", "func f(a []int) { a[0]++ }", "func f(m t) { m.a[0] += 1 }", "type t struct{ a []int }\nfunc (m t) f() { m.a[0] = 1 }",
		"type t struct{ at int }\nfunc f(list []t) { list[0].at = 1 }", "func f(a []int) []int { return append(a, 1) }",
		"type t struct{ a []int }\nfunc f(m t) []int { return append(m.a, 1) }", "func f(a []int) []int { return append(a[:1], 2) }", "func f(a []int) { copy(a, []int{1}) }",
		"func f(a []int) { clear(a) }", "type t struct{ at int }\nfunc f(m *t) { m.at = 1 }", "func f(n *int) { *n = 1 }",
	}
	for _, body := range bodies {
		src, err := sourceOf([]string{"package impl\n" + body})
		if err != nil {
			t.Fatal(body, err)
		}
		if len(writesToArguments(src)) == 0 {
			t.Errorf("not seen: %s", body)
		}
	}
	fine := "package impl\ntype t struct{ at int; a []int }\nfunc f(m t, a []int, n int) []int { m.at = 1; n++; b := append([]int{}, a...); b[0] = m.at; copy(b, a); return append(b, n) }"
	src, err := sourceOf([]string{fine})
	if err != nil || len(writesToArguments(src)) != 0 {
		t.Error(err, writesToArguments(src))
	}
}
