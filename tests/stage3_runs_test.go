package tests

import (
	"math"
	"slices"
	"testing"

	"loop.example/backintime/impl"
)

// steps returns choices of ChoiceStep of threads, with the answer 0.
func steps(threads ...int) []impl.Choice {
	out := []impl.Choice{}
	for _, who := range threads {
		out = append(out, impl.Choice{Who: who})
	}
	return out
}

// joined returns two rows of choices one behind the other, in memory of their own.
func joined(a []impl.Choice, b ...impl.Choice) []impl.Choice {
	return append(append([]impl.Choice{}, a...), b...)
}

// noRun fails if a function of runs returns anything but its fixed result.
func noRun(t *testing.T, what string, p impl.Program, list []impl.Choice) {
	t.Helper()
	if impl.RunOk(p, list) {
		t.Fatalf("%s: %v is a run of %v", what, list, p)
	}
	if machines := impl.Machines(p, list); len(machines) != 0 {
		t.Fatalf("%s: %v has machines: %v", what, list, machines)
	}
	if can := impl.Choosing(p, list); len(can) != 0 {
		t.Fatalf("%s: behind %v can be chosen %v", what, list, can)
	}
	for _, k := range []int{math.MinInt, -1, 0, 1, 2, len(list) - 1, len(list), len(list) + 1, math.MaxInt} {
		if m, ok := impl.MachineAt(p, list, k); ok || !isNothing(m) {
			t.Fatalf("%s: MachineAt(%v, %d) = %v, %v", what, list, k, m, ok)
		}
	}
}

// talker is a program that begins a thread, asks, stores and tells, with a handler; and a run of it with its machines, by hand.
func talker(t *testing.T) (impl.Program, []impl.Choice, []impl.Machine) {
	t.Helper()
	p := program(t, 5, "begin 3", "ask 1", "jump 4", "set 2 5", "store 1 2 3", "tell 1")
	list := []impl.Choice{{}, {Who: 1}, {Reply: 42}, {}, {Who: 1, Kind: impl.ChoiceSignal}, {}, {Who: 1}, {}, {}}
	stored := withCell(machineOf(at(5, 0, 42), withStack(at(5, 0, 0, 5), 4)), 3, 42)
	told := withCell(machineOf(at(5, 0, 42), withStack(at(6, 0, 0, 5), 4)), 3, 42)
	told.Told = []int{0}
	both := withCell(machineOf(at(6, 0, 42), withStack(at(6, 0, 0, 5), 4)), 3, 42)
	both.Told = []int{0, 42}
	failed := clone(both)
	failed.Threads[0].State = impl.ThreadFails
	return p, list, []impl.Machine{
		machineOf(at(0)),
		machineOf(at(1), at(3)),
		machineOf(at(1), at(4, 0, 0, 5)),
		machineOf(at(2, 0, 42), at(4, 0, 0, 5)),
		machineOf(at(4, 0, 42), at(4, 0, 0, 5)),
		machineOf(at(4, 0, 42), withStack(at(5, 0, 0, 5), 4)),
		stored,
		told,
		both,
		failed,
	}
}

func TestConstantsOfStage3(t *testing.T) {
	if impl.RunTop != 300 {
		t.Fatal(impl.RunTop)
	}
}

func TestP3MachinesByHand(t *testing.T) {
	p, list, want := talker(t)
	if !impl.RunOk(p, list) || impl.RunLong(p, list) != 9 {
		t.Fatalf("it is a run: %v, of %d choices", impl.RunOk(p, list), impl.RunLong(p, list))
	}
	machines := impl.Machines(p, list)
	if len(machines) != 10 {
		t.Fatalf("%d machines", len(machines))
	}
	for k := range want {
		m, ok := impl.MachineAt(p, list, k)
		if !ok || !equal(m, want[k]) || !equal(machines[k], want[k]) {
			t.Errorf("behind %d choices: %v, %v, and %v, want %v", k, m, ok, machines[k], want[k])
		}
	}
	for _, k := range []int{math.MinInt, -301, -10, -1, 10, 11, 300, 301, math.MaxInt} {
		if m, ok := impl.MachineAt(p, list, k); ok || !isNothing(m) {
			t.Errorf("behind %d choices: %v, %v", k, m, ok)
		}
	}
}

// hangsOnWhatIsAhead fails if promise 3 is broken at a place of a run.
func hangsOnWhatIsAhead(t *testing.T, d *dice, p impl.Program, list []impl.Choice, k int) {
	t.Helper()
	m, ok := impl.MachineAt(p, list, k)
	if !ok || !machineExpected(p, m) {
		t.Fatalf("behind %d choices of %v of %v: %v, %v", k, list, p, m, ok)
	}
	if short, ok := impl.MachineAt(p, list[:k], k); !ok || !equal(m, short) {
		t.Fatalf("behind %d choices of %v of %v: %v, and of just these %v, %v", k, list, p, m, short, ok)
	}
	if k == len(list) {
		return
	}
	next, ok := impl.Do(p, m, list[k])
	if behind, is := impl.MachineAt(p, list, k+1); !ok || !is || !equal(next, behind) {
		t.Fatalf("choice %d of %v of %v leads from %v to %v, %v, and the next machine is %v, %v", k, list, p, m, next, ok, behind, is)
	}
	// Another run that begins the same has the same machine there, whatever is chosen later.
	can := choosingExpected(p, m)
	other := joined(list[:k], can[d.below(len(can))])
	if there, ok := impl.MachineAt(p, other, k); !ok || !equal(m, there) {
		t.Fatalf("behind %d choices of %v of %v: %v, and of %v %v, %v", k, list, p, m, other, there, ok)
	}
}

func TestP3AMachineHangsOnTheChoicesAheadAlone(t *testing.T) {
	d := dice{seed: 21}
	far := 0
	for i := 0; i < 400; i++ {
		p := d.lively()
		list := d.run(p, d.oneOf([]int{0, 1, 2, 10, 40}))
		for k := 0; k <= len(list); k++ {
			hangsOnWhatIsAhead(t, &d, p, list, k)
		}
		if len(list) == 40 {
			far++
		}
	}
	if far < 30 {
		t.Fatalf("only %d runs had 40 choices", far)
	}
}

func TestP3RunsAsLongAsTheyMayBe(t *testing.T) {
	d := dice{seed: 22}
	long := 0
	for i := 0; i < 60; i++ {
		p := d.lively()
		list := d.run(p, 300)
		for _, k := range []int{0, 1, len(list) / 2, len(list) - 1, len(list)} {
			hangsOnWhatIsAhead(t, &d, p, list, max(k, 0))
		}
		if len(list) == 300 {
			long++
		}
	}
	if long < 10 {
		t.Fatalf("only %d runs had 300 choices", long)
	}
}

func TestP3NoMachineOfARowWithAChoiceThatCanNotBeMade(t *testing.T) {
	p, list, _ := talker(t)
	bad := impl.Choice{Who: 2}
	for k := 0; k <= len(list); k++ {
		noRun(t, "a thread that is not there", p, joined(joined(list[:k], bad), list[k:]...))
	}
	noRun(t, "the thread that is to begin", p, steps(1))
	noRun(t, "a thread ahead of its beginning", p, joined(steps(1), list...))
	noRun(t, "one that has failed", p, joined(list, impl.Choice{}))
}

func TestP4SeedsByHand(t *testing.T) {
	asking := program(t, -1, "ask 0", "jump 0")
	signals := program(t, 1, "ask 0", "jump 0")
	threads := program(t, -1, "begin 0", "ask 0", "jump 1")
	signal := impl.Choice{Kind: impl.ChoiceSignal}
	// From 1 on it becomes 16807, 282475249, 1622650073, 984943658, 1144108930, 470211272, 101027544, 1457850878.
	rows := []struct {
		what string
		p    impl.Program
		seed int
		want []impl.Choice
	}{
		{"answers", asking, 1, []impl.Choice{{Reply: 6807}, {}, {Reply: 73}, {}, {Reply: 8930}, {}, {Reply: 7544}, {}}},
		{"signals", signals, 1, []impl.Choice{signal, signal, signal, {}, {Reply: 8930}, {}, {Reply: 7544}, {}}},
		{"threads", threads, 1, []impl.Choice{{}, {Who: 1}, {Who: 2}, {Who: 2, Reply: 3658}, {Who: 2}, {Reply: 1272}, {}, {Who: 2, Reply: 878}}},
		{"the least seed", asking, 0, steps(0, 0, 0, 0, 0, 0, 0, 0)},
		{"the least seed, and signals", signals, 0, steps(0, 0, 0, 0, 0, 0, 0, 0)},
		{"the greatest seed", asking, 2147483646, []impl.Choice{{Reply: 6840}, {}, {Reply: 3574}, {}, {Reply: 4717}, {}, {Reply: 6103}, {}}},
		{"one that ends", program(t, 0, "halt"), 0, steps(0)},
		{"one that fails", program(t, -1, "ret"), 7, steps(0)},
		{"one that is stuck", program(t, -1, "lock 0", "lock 0"), 9, steps(0)},
	}
	for _, row := range rows {
		for n := 0; n <= 8; n++ {
			want := row.want[:min(n, len(row.want))]
			if got := impl.RunOfSeed(row.p, row.seed, n); !slices.Equal(got, want) {
				t.Errorf("%s, at most %d: %v, want %v", row.what, n, got, want)
			}
		}
	}
}

// chosenBySeed fails if promise 4 is broken for a seed.
func chosenBySeed(t *testing.T, p impl.Program, seed int, n int) []impl.Choice {
	t.Helper()
	list := impl.RunOfSeed(p, seed, n)
	if !slices.Equal(list, seedRunExpected(p, seed, n)) {
		t.Fatalf("RunOfSeed(%v, %d, %d) = %v", p, seed, n, list)
	}
	if !impl.RunOk(p, list) || len(list) > n {
		t.Fatalf("what %d chooses of %v is no run of at most %d: %v", seed, p, n, list)
	}
	if left := impl.Choosing(p, list); len(list) < n && len(left) != 0 {
		t.Fatalf("%v are only %d of %d choices of %v, and there are left %v", list, len(list), n, p, left)
	}
	return list
}

func TestP4WhatASeedChoosesIsARun(t *testing.T) {
	d := dice{seed: 23}
	long, ended := 0, 0
	for i := 0; i < 400; i++ {
		p := d.lively()
		seed := d.oneOf([]int{0, 1, 2, 2147483645, 2147483646, d.below(2147483647)})
		list := chosenBySeed(t, p, seed, 300)
		for _, k := range []int{0, 1, 2, d.below(301), 299, 300} {
			short := chosenBySeed(t, p, seed, k)
			if !slices.Equal(short, list[:min(k, len(list))]) {
				t.Fatalf("of %v %d chooses %v, and at most %d of them: %v", p, seed, list, k, short)
			}
		}
		if len(list) == 300 {
			long++
		} else {
			ended++
		}
	}
	if long < 50 || ended < 50 {
		t.Fatalf("%d runs were long, and %d ended", long, ended)
	}
}

func TestP4EachShorterOneIsItsBeginning(t *testing.T) {
	p := program(t, 4, "begin 0", "ask 1", "store 1 1 0", "jump 1", "tell 1", "ret")
	list := chosenBySeed(t, p, 12345, 300)
	if len(list) != 300 {
		t.Fatalf("only %d choices", len(list))
	}
	for k := range list {
		if short := impl.RunOfSeed(p, 12345, k); !slices.Equal(short, list[:k]) {
			t.Fatalf("at most %d: %v, which is no beginning of %v", k, short, list)
		}
	}
}

func TestP4NoRunOfOtherSeedsAndNumbers(t *testing.T) {
	p := program(t, -1, "ask 0", "jump 0")
	for _, n := range []int{math.MinInt, -300, -1, 0, 1, 299, 300, 301, 302, 1000, 1 << 40, math.MaxInt} {
		for _, seed := range []int{math.MinInt, -2147483646, -1, 0, 1, 2147483646, 2147483647, 2147483648, 1 << 40, math.MaxInt} {
			want := 0
			if n >= 0 && n <= 300 && seed >= 0 && seed <= 2147483646 {
				want = n
			}
			if got := impl.RunOfSeed(p, seed, n); len(got) != want {
				t.Errorf("RunOfSeed with %d and %d has %d choices", seed, n, len(got))
			}
		}
	}
	for _, bad := range brokenPrograms() {
		for _, n := range []int{0, 1, 300} {
			if got := impl.RunOfSeed(bad, 1, n); len(got) != 0 {
				t.Errorf("RunOfSeed of %v: %v", bad, got)
			}
		}
	}
}

func TestP69ChoicesThatCanNotBeMadeByHand(t *testing.T) {
	locks := program(t, -1, "begin 1", "lock 0", "ask 1", "free 0", "halt")
	jumps := program(t, -1, "jump 0")
	rows := []struct {
		what string
		p    impl.Program
		list []impl.Choice
		long int
	}{
		{"no choices", locks, nil, 0},
		{"a row of no choices", locks, []impl.Choice{}, 0},
		{"the first one", locks, steps(1, 0, 1), 0},
		{"a thread that is not there yet", locks, steps(0, 0, 2, 0), 2},
		{"a lock that another one holds", locks, steps(0, 0, 1, 0), 2},
		{"a lock that is given back", locks, steps(0, 0, 0, 0, 1, 1, 1, 1), 8},
		{"one that is done", locks, steps(0, 0, 0, 0, 0, 0, 1, 1), 5},
		{"a signal without a handler", locks, joined(joined(steps(0), impl.Choice{Kind: 1}), steps(1, 0)...), 1},
		{"an answer where none is asked for", locks, []impl.Choice{{}, {}, {Reply: 5}, {Reply: 1}, {}}, 3},
		{"an answer too great", locks, []impl.Choice{{}, {}, {Reply: 10000}, {}}, 2},
		{"an answer too small", locks, []impl.Choice{{}, {}, {Reply: -1}, {}}, 2},
		{"the greatest answer", locks, []impl.Choice{{}, {}, {Reply: 9999}, {}}, 4},
		{"no such kind", locks, []impl.Choice{{}, {Kind: 2}, {}}, 1},
		{"one that has failed", program(t, -1, "ret"), steps(0, 0), 1},
		{"the last one", locks, joined(steps(0, 1, 1, 1), steps(-1)...), 4},
		{"299 choices", jumps, make([]impl.Choice, 299), 299},
		{"300 choices", jumps, make([]impl.Choice, 300), 300},
		{"301 choices", jumps, make([]impl.Choice, 301), 300},
		{"1000 choices", jumps, make([]impl.Choice, 1000), 300},
		{"300 choices, and one that can not be made", jumps, joined(make([]impl.Choice, 300), steps(1)...), 300},
		{"299 choices, and one that can not be made", jumps, joined(make([]impl.Choice, 299), steps(1, 0, 0)...), 299},
	}
	for _, row := range rows {
		if got := impl.RunLong(row.p, row.list); got != row.long {
			t.Errorf("%s: %d choices", row.what, got)
		}
		for k := 0; k <= len(row.list); k++ {
			if impl.RunOk(row.p, row.list[:k]) != (k <= row.long) {
				t.Errorf("%s: the first %d are a run: %v", row.what, k, k > row.long)
			}
		}
		if row.long < len(row.list) {
			noRun(t, row.what, row.p, row.list)
		}
	}
}

func TestP69BeginningsUpToTheFirstThatCanNotBeMade(t *testing.T) {
	d := dice{seed: 24}
	middle := 0
	for i := 0; i < 600; i++ {
		p := d.lively()
		list := d.mangledRun(d.run(p, d.oneOf([]int{0, 1, 5, 30})))
		list = list[:min(len(list), 40)]
		long := runAsExpected(t, p, list)
		for k := 0; k <= len(list); k++ {
			if impl.RunLong(p, list[:k]) != min(k, long) || impl.RunOk(p, list[:k]) != (k <= long) {
				t.Fatalf("of %v of %v %d choices can be made, and of the first %d: %d", list, p, long, k, impl.RunLong(p, list[:k]))
			}
		}
		if long > 0 && long < len(list)-1 {
			middle++
		}
	}
	if middle < 100 {
		t.Fatalf("only %d rows had a choice in the middle that can not be made", middle)
	}
}

func TestP69NoRunOfBrokenPrograms(t *testing.T) {
	for _, p := range brokenPrograms() {
		for _, list := range [][]impl.Choice{nil, {}, steps(0), steps(0, 0), make([]impl.Choice, 300), make([]impl.Choice, 301)} {
			if got := impl.RunLong(p, list); got != -1 {
				t.Errorf("RunLong(%v) of %d choices is %d", p, len(list), got)
			}
			noRun(t, "a program that is none", p, list)
		}
	}
}

func TestP70ARunWithOneChoiceLessIsOne(t *testing.T) {
	d := dice{seed: 25}
	for i := 0; i < 150; i++ {
		p := d.lively()
		for list := d.run(p, d.oneOf([]int{1, 20, 60})); len(list) > 0; list = list[:len(list)-1] {
			if !impl.RunOk(p, list) || impl.RunLong(p, list) != len(list) {
				t.Fatalf("%v of %v: %d choices can be made", list, p, impl.RunLong(p, list))
			}
		}
	}
}

func TestP70NoChoicesAreARunOfEveryProgram(t *testing.T) {
	for _, p := range somePrograms() {
		if !impl.ProgramOk(p) {
			noRun(t, "a program that is none", p, nil)
			continue
		}
		for _, list := range [][]impl.Choice{nil, {}} {
			m, ok := impl.MachineAt(p, list, 0)
			machines := impl.Machines(p, list)
			if !impl.RunOk(p, list) || impl.RunLong(p, list) != 0 || !ok || !equal(m, machineOf(at(0))) {
				t.Fatalf("no choices of %v: %v, %d, %v, %v", p, impl.RunOk(p, list), impl.RunLong(p, list), m, ok)
			}
			if len(machines) != 1 || !equal(machines[0], m) {
				t.Fatalf("no choices of %v have machines %v", p, machines)
			}
			if m, ok := impl.MachineAt(p, list, 1); ok || !isNothing(m) {
				t.Fatalf("behind one of no choices of %v: %v, %v", p, m, ok)
			}
		}
	}
}

func TestP71OneMachineMoreThanChoices(t *testing.T) {
	d := dice{seed: 26}
	for i := 0; i < 200; i++ {
		p := d.lively()
		list := d.run(p, d.oneOf([]int{0, 1, 2, 12, 50}))
		machines := impl.Machines(p, list)
		if len(machines) != len(list)+1 {
			t.Fatalf("%d choices of %v, and %d machines", len(list), p, len(machines))
		}
		for k := range machines {
			if m, ok := impl.MachineAt(p, list, k); !ok || !equal(m, machines[k]) {
				t.Fatalf("machine %d of %v of %v is %v, and at its place is %v, %v", k, list, p, machines[k], m, ok)
			}
		}
		runAsExpected(t, p, list)
	}
	jumps := program(t, -1, "jump 0")
	if got := len(impl.Machines(jumps, make([]impl.Choice, 300))); got != 301 {
		t.Fatalf("300 choices, and %d machines", got)
	}
	if got := len(impl.Machines(jumps, make([]impl.Choice, 301))); got != 0 {
		t.Fatalf("301 choices, and %d machines", got)
	}
}

func TestP72ChoosingByHand(t *testing.T) {
	locks := program(t, 4, "begin 1", "lock 0", "ask 1", "halt", "ret")
	no := locks
	no.Handler = -1
	signal := func(who int) impl.Choice { return impl.Choice{Who: who, Kind: impl.ChoiceSignal} }
	full := []impl.Choice{signal(0), signal(0), signal(0), signal(0), signal(0), signal(0)}
	itself := program(t, 0, "lock 1", "lock 1")
	rows := []struct {
		what string
		p    impl.Program
		list []impl.Choice
		want []impl.Choice
	}{
		{"at first", locks, nil, []impl.Choice{{}, signal(0)}},
		{"at first, without a handler", no, nil, steps(0)},
		{"two threads", locks, steps(0), []impl.Choice{{}, signal(0), {Who: 1}, signal(1)}},
		{"two threads, without a handler", no, steps(0), steps(0, 1)},
		{"one waits", locks, steps(0, 0), []impl.Choice{{}, signal(0), signal(1)}},
		{"one waits for one that is done", locks, steps(0, 0, 0, 0), []impl.Choice{signal(1)}},
		{"one waits for one that is done, without a handler", no, steps(0, 0, 0, 0), nil},
		{"one has failed", program(t, 1, "begin 2", "jump 1", "ret"), steps(0, 1), []impl.Choice{{}, signal(0)}},
		{"a stack that is full", locks, full, steps(0)},
		{"it waits for itself", itself, steps(0), []impl.Choice{signal(0)}},
		{"it waits for itself, with a stack that is full", itself, joined(full, impl.Choice{}), nil},
		{"done", program(t, 0, "halt"), steps(0), nil},
		{"failed", program(t, 0, "ret"), steps(0), nil},
		{"behind the end", program(t, -1, "set 0 1"), steps(0), steps(0)},
		{"as long as a run may be", program(t, -1, "jump 0"), make([]impl.Choice, 300), steps(0)},
	}
	for _, row := range rows {
		if got := impl.Choosing(row.p, row.list); !slices.Equal(got, row.want) {
			t.Errorf("%s: %v, want %v", row.what, got, row.want)
		}
	}
	for _, list := range [][]impl.Choice{steps(1), steps(0, 2), steps(0, 0, 1), joined(steps(0), impl.Choice{Reply: 1}), make([]impl.Choice, 301)} {
		noRun(t, "a row that is no run", locks, list)
	}
	noRun(t, "a row that is too long", program(t, -1, "jump 0"), make([]impl.Choice, 301))
}

func TestP72AllThatCanBeChosenLeadsOn(t *testing.T) {
	d := dice{seed: 27}
	for i := 0; i < 300; i++ {
		p := d.lively()
		list := d.run(p, d.oneOf([]int{0, 1, 2, 8, 30, 299}))
		m, _ := impl.MachineAt(p, list, len(list))
		can := impl.Choosing(p, list)
		chosen := map[impl.Choice]bool{}
		for _, c := range can {
			chosen[c] = true
			if !impl.RunOk(p, joined(list, c)) {
				t.Fatalf("%v can be chosen behind %v of %v, and leads nowhere", c, list, p)
			}
		}
		for who := -1; who <= 4; who++ {
			for kind := -1; kind <= 2; kind++ {
				c := impl.Choice{Who: who, Kind: kind}
				if impl.CanDo(p, m, c) != chosen[c] {
					t.Fatalf("%v can be made behind %v of %v, and can be chosen are %v", c, list, p, can)
				}
			}
		}
		if len(chosen) != len(can) {
			t.Fatalf("can be chosen: %v", can)
		}
	}
}

// waiting returns a program whose threads take locks and end, so that many of its runs are stuck.
func (d *dice) waiting() impl.Program {
	p := impl.Program{Handler: d.below(3) - 1, Rows: []impl.Code{{Op: impl.OpBegin, C: 2}, {Op: impl.OpBegin, C: 4}}}
	for len(p.Rows) < 8 {
		op := d.oneOf([]int{impl.OpLock, impl.OpLock, impl.OpLock, impl.OpFree, impl.OpHalt, impl.OpRet})
		c := impl.Code{Op: op}
		if op == impl.OpLock || op == impl.OpFree {
			c.C = d.below(2)
		}
		p.Rows = append(p.Rows, c)
	}
	return p
}

func TestP72NothingButSignalsWhereAllWaitOrHaveEnded(t *testing.T) {
	d := dice{seed: 28}
	stuck, ended, signals := 0, 0, 0
	for i := 0; i < 1500; i++ {
		p := d.waiting()
		list := impl.RunOfSeed(p, d.below(2147483647), d.oneOf([]int{3, 4, 6, 8, 10, 20, 40}))
		m, ok := impl.MachineAt(p, list, len(list))
		if !ok {
			t.Fatalf("%v is no run of %v", list, p)
		}
		can := impl.Choosing(p, list)
		runs := false
		for who := range m.Threads {
			runs = runs || runsExpected(m, who)
		}
		if !runs {
			ended++
			if len(can) != 0 {
				t.Fatalf("behind %v of %v all have ended, and can be chosen %v", list, p, can)
			}
		}
		if impl.Stuck(p, m) {
			stuck++
			signals += len(can)
			for _, c := range can {
				if c.Kind != impl.ChoiceSignal {
					t.Fatalf("behind %v of %v all wait, and can be chosen %v", list, p, can)
				}
			}
		}
		if !slices.Equal(can, choosingExpected(p, m)) {
			t.Fatalf("behind %v of %v can be chosen %v", list, p, can)
		}
	}
	if stuck < 100 || ended < 100 || signals < 30 {
		t.Fatalf("%d runs were stuck, with %d signals, and %d had ended", stuck, signals, ended)
	}
}

func TestP158OverWhateverRows(t *testing.T) {
	d := dice{seed: 29}
	good, bad := 0, 0
	for i := 0; i < 1500; i++ {
		p := d.lively()
		list := d.run(p, d.oneOf([]int{0, 1, 3, 20, 300}))
		if d.below(3) > 0 {
			list = d.mangledRun(list)
		}
		p = d.mangledProgram(p)
		if runAsExpected(t, p, list) == len(list) {
			good++
			hangsOnWhatIsAhead(t, &d, p, list, d.below(len(list)+1))
		} else {
			bad++
		}
	}
	if good < 300 || bad < 300 {
		t.Fatalf("%d rows were runs, and %d were none", good, bad)
	}
}

func TestP158OverWhateverNumbers(t *testing.T) {
	d := dice{seed: 30}
	numbers := append(fieldsNear(), 0, 0, 0, 0, 0, 0, 1, 1)
	for i := 0; i < 3000; i++ {
		p := impl.Program{Handler: d.oneOf(numbers)}
		for k := d.oneOf([]int{0, 1, 2, 60, 61, 1000}); k > 0; k-- {
			p.Rows = append(p.Rows, impl.Code{Op: d.oneOf(numbers), A: d.oneOf(numbers), B: d.oneOf(numbers), C: d.oneOf(numbers)})
		}
		if d.below(2) == 0 {
			p = d.program()
		}
		list := []impl.Choice{}
		for k := d.oneOf([]int{0, 1, 2, 5, 299, 300, 301, 1000}); k > 0; k-- {
			list = append(list, impl.Choice{Who: d.oneOf(numbers), Kind: d.oneOf(numbers), Reply: d.oneOf(numbers)})
		}
		runAsExpected(t, p, list)
	}
}

func TestP159OverWhateverProgramsAndNumbers(t *testing.T) {
	d := dice{seed: 31}
	numbers := []int{math.MinInt, -1, 0, 1, 2, 10, 50, 299, 300, 301, 2147483645, 2147483646, 2147483647, math.MaxInt}
	runs, none := 0, 0
	for i := 0; i < 2500; i++ {
		p := d.mangledProgram(d.lively())
		seed := d.oneOf(append(numbers, 77, d.below(2147483647), d.below(2147483647)))
		n := d.oneOf(append(numbers, 7, 7, 30, 30))
		list := impl.RunOfSeed(p, seed, n)
		if !slices.Equal(list, seedRunExpected(p, seed, n)) {
			t.Fatalf("RunOfSeed(%v, %d, %d) = %v", p, seed, n, list)
		}
		if !impl.ProgramOk(p) || seed < 0 || seed > 2147483646 || n < 0 || n > 300 {
			none++
			continue
		}
		runs++
		chosenBySeed(t, p, seed, n)
	}
	if runs < 500 || none < 500 {
		t.Fatalf("there were %d runs, and %d times there was none", runs, none)
	}
}

// writtenInto writes into a row of choices and the room behind it.
func writtenInto(list []impl.Choice) {
	all := list[:cap(list)]
	for k := range all {
		all[k] = impl.Choice{Who: -77, Kind: -77, Reply: -77}
	}
}

func TestResultsOfStage3AreNew(t *testing.T) {
	d := dice{seed: 32}
	for i := 0; i < 300; i++ {
		p := d.lively()
		rows := append([]impl.Code{}, p.Rows...)
		was := d.run(p, d.oneOf([]int{0, 1, 2, 20}))
		list := append(make([]impl.Choice, 0, len(was)+2), was...)
		copy(list[len(list):cap(list)], []impl.Choice{{Who: -88}, {Who: -88}})
		k := d.below(len(list) + 1)
		impl.RunLong(p, list)
		impl.RunOk(p, list)
		first := append([]impl.Machine{}, impl.Machines(p, list)...)
		first = append(first, impl.Machines(p, list)...)
		alone, _ := impl.MachineAt(p, list, k)
		again, _ := impl.MachineAt(p, list, k)
		if scribbled(append(first, alone, again)...) {
			t.Fatalf("machines of %v of %v share memory", was, p)
		}
		writtenInto(impl.Choosing(p, list))
		writtenInto(impl.RunOfSeed(p, 5, 20))
		if !slices.Equal(impl.RunOfSeed(p, 5, 20), seedRunExpected(p, 5, 20)) {
			t.Fatal("a run of a seed is kept")
		}
		if runAsExpected(t, p, list) != len(was) || !slices.Equal(list, was) {
			t.Fatalf("%v was written to: %v", was, list)
		}
		for _, c := range list[len(list):cap(list)] {
			if c.Who != -88 {
				t.Fatalf("behind %v was written %v", was, c)
			}
		}
		for n := range rows {
			if rows[n] != p.Rows[n] {
				t.Fatalf("row %d was written to: %v", n, p.Rows[n])
			}
		}
	}
}

func TestWayOfRunsIsOneChoiceAfterTheOther(t *testing.T) {
	calls := callsOf(newSource(t))
	for _, name := range []string{"RunLong", "RunOk", "MachineAt", "Machines", "Choosing", "RunOfSeed"} {
		if !reaches(calls, name, "Do", map[string]bool{}) {
			t.Errorf("%s makes no choice", name)
		}
	}
}
