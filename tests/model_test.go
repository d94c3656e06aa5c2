package tests

import (
	"encoding/binary"
	"math"
	"math/bits"
	"slices"
	"testing"

	"loop.example/backintime/impl"
)

func cloneInts(list []int) []int {
	return append([]int{}, list...)
}

func cloneThread(t impl.Thread) impl.Thread {
	return impl.Thread{At: t.At, Regs: cloneInts(t.Regs), Stack: cloneInts(t.Stack), State: t.State}
}

func clone(m impl.Machine) impl.Machine {
	out := impl.Machine{Cells: cloneInts(m.Cells), Locks: cloneInts(m.Locks), Told: cloneInts(m.Told)}
	for _, t := range m.Threads {
		out.Threads = append(out.Threads, cloneThread(t))
	}
	return out
}

// equalThreads and equal are this test's own, so that SameMachine is not checked by itself.
func equalThreads(a impl.Thread, b impl.Thread) bool {
	return a.At == b.At && a.State == b.State && sameInts(a.Regs, b.Regs) && sameInts(a.Stack, b.Stack)
}

func equal(a impl.Machine, b impl.Machine) bool {
	if len(a.Threads) != len(b.Threads) {
		return false
	}
	for i := range a.Threads {
		if !equalThreads(a.Threads[i], b.Threads[i]) {
			return false
		}
	}
	return sameInts(a.Cells, b.Cells) && sameInts(a.Locks, b.Locks) && sameInts(a.Told, b.Told)
}

func within(list []int, low int, high int) bool {
	for _, n := range list {
		if n < low || n > high {
			return false
		}
	}
	return true
}

func machineExpected(p impl.Program, m impl.Machine) bool {
	n := len(p.Rows)
	if !impl.ProgramOk(p) || len(m.Threads) == 0 || len(m.Threads) > 4 {
		return false
	}
	for _, t := range m.Threads {
		if t.At < 0 || t.At > n || t.State < 0 || t.State > 2 {
			return false
		}
		if len(t.Stack) > 6 || !within(t.Stack, 0, n) || len(t.Regs) != 4 || !within(t.Regs, 0, 9999) {
			return false
		}
	}
	return len(m.Cells) == 8 && within(m.Cells, 0, 9999) &&
		len(m.Locks) == 2 && within(m.Locks, -1, len(m.Threads)-1) &&
		len(m.Told) <= 1000 && within(m.Told, 0, 9999)
}

func runsExpected(m impl.Machine, who int) bool {
	return who >= 0 && who < len(m.Threads) && m.Threads[who].State == impl.ThreadRuns
}

func canExpected(p impl.Program, m impl.Machine, c impl.Choice) bool {
	if !machineExpected(p, m) || !runsExpected(m, c.Who) {
		return false
	}
	t := m.Threads[c.Who]
	if c.Kind == impl.ChoiceSignal {
		return p.Handler != -1 && len(t.Stack) < 6 && c.Reply == 0
	}
	if c.Kind != impl.ChoiceStep {
		return false
	}
	if t.At == len(p.Rows) {
		return c.Reply == 0
	}
	code := p.Rows[t.At]
	if code.Op == impl.OpAsk {
		return c.Reply >= 0 && c.Reply < 10000
	}
	if code.Op == impl.OpLock && m.Locks[code.C] >= 0 || code.Op == impl.OpTell && len(m.Told) == 1000 {
		return false
	}
	return c.Reply == 0
}

// doExpected does a choice a second way: by writing into a copy of the machine.
func doExpected(p impl.Program, m impl.Machine, c impl.Choice) (impl.Machine, bool) {
	if !canExpected(p, m, c) {
		return impl.Machine{}, false
	}
	out := clone(m)
	t := &out.Threads[c.Who]
	if c.Kind == impl.ChoiceSignal {
		t.Stack = append(t.Stack, t.At)
		t.At = p.Handler
		return out, true
	}
	if t.At == len(p.Rows) {
		t.State = 2
		return out, true
	}
	code := p.Rows[t.At]
	deep := len(t.Stack)
	switch code.Op {
	case impl.OpHalt:
		t.State = 1
	case impl.OpJump:
		t.At = code.C
	case impl.OpZero:
		if t.Regs[code.A] == 0 {
			t.At = code.C
		} else {
			t.At++
		}
	case impl.OpCall:
		if deep == 6 {
			t.State = 2
		} else {
			t.Stack = append(t.Stack, t.At+1)
			t.At = code.C
		}
	case impl.OpRet:
		if deep == 0 {
			t.State = 2
		} else {
			t.At = t.Stack[deep-1]
			t.Stack = t.Stack[:deep-1]
		}
	case impl.OpTell:
		out.Told = append(out.Told, t.Regs[code.A])
		t.At++
	case impl.OpLock:
		out.Locks[code.C] = c.Who
		t.At++
	case impl.OpFree:
		if out.Locks[code.C] != c.Who {
			t.State = 2
		} else {
			out.Locks[code.C] = -1
			t.At++
		}
	case impl.OpBegin:
		if len(out.Threads) == 4 {
			t.State = 2
		} else {
			t.At++
			out.Threads = append(out.Threads, impl.Thread{At: code.C, Regs: cloneInts(t.Regs)})
		}
	case impl.OpStore:
		out.Cells[(t.Regs[code.B]+code.C)%8] = t.Regs[code.A]
		t.At++
	default:
		t.Regs[code.A] = setExpected(m, c, code, t.Regs)
		t.At++
	}
	return out, true
}

func setExpected(m impl.Machine, c impl.Choice, code impl.Code, regs []int) int {
	a, b := regs[code.A], regs[code.B]
	switch code.Op {
	case impl.OpSet:
		return code.C
	case impl.OpMove:
		return b
	case impl.OpAdd:
		return (a + b) % 10000
	case impl.OpSub:
		return ((a-b)%10000 + 10000) % 10000
	case impl.OpMul:
		return (a * b) % 10000
	case impl.OpLess:
		if a < b {
			return 1
		}
		return 0
	case impl.OpLoad:
		return m.Cells[(b+code.C)%8]
	}
	return c.Reply
}

func stuckExpected(p impl.Program, m impl.Machine) bool {
	running, waiting := 0, 0
	if !machineExpected(p, m) {
		return false
	}
	for _, t := range m.Threads {
		if t.State != 0 {
			continue
		}
		running++
		if t.At == len(p.Rows) {
			continue
		}
		code := p.Rows[t.At]
		if code.Op == impl.OpLock && m.Locks[code.C] != -1 || code.Op == impl.OpTell && len(m.Told) == 1000 {
			waiting++
		}
	}
	return running > 0 && running == waiting
}

func instrExpected(p impl.Program, m impl.Machine, who int) (impl.Code, bool) {
	if !machineExpected(p, m) || !runsExpected(m, who) || m.Threads[who].At == len(p.Rows) {
		return impl.Code{}, false
	}
	return p.Rows[m.Threads[who].At], true
}

// doneAsExpected fails if a choice is not made, or not to be made, as this test's own machine tells.
func doneAsExpected(t *testing.T, p impl.Program, m impl.Machine, c impl.Choice) (impl.Machine, bool) {
	t.Helper()
	want, there := doExpected(p, m, c)
	got, ok := impl.Do(p, m, c)
	if ok != there || !equal(got, want) {
		t.Fatalf("Do(%v, %v, %v)\n = %v, %v\nwant %v, %v", p, m, c, got, ok, want, there)
	}
	if impl.CanDo(p, m, c) != there {
		t.Fatalf("CanDo(%v, %v, %v) = %v", p, m, c, !there)
	}
	return got, ok
}

// machinesExpected returns the machine at first and those behind the choices of a row, as far as they can be made, and 300 of them at most; none of what is no program.
func machinesExpected(p impl.Program, list []impl.Choice) []impl.Machine {
	if !impl.ProgramOk(p) {
		return nil
	}
	out := []impl.Machine{machineOf(at(0))}
	for _, c := range list {
		next, ok := doExpected(p, out[len(out)-1], c)
		if !ok || len(out) == 301 {
			return out
		}
		out = append(out, next)
	}
	return out
}

func choosingExpected(p impl.Program, m impl.Machine) []impl.Choice {
	out := []impl.Choice{}
	for k := 0; k < 8; k++ {
		if c := (impl.Choice{Who: k / 2, Kind: k % 2}); canExpected(p, m, c) {
			out = append(out, c)
		}
	}
	return out
}

// asks reports whether a choice is a step at which something is answered.
func asks(p impl.Program, m impl.Machine, c impl.Choice) bool {
	code, ok := instrExpected(p, m, c.Who)
	return ok && code.Op == impl.OpAsk && c.Kind == impl.ChoiceStep
}

func seedRunExpected(p impl.Program, seed int, n int) []impl.Choice {
	out := []impl.Choice{}
	if !impl.ProgramOk(p) || seed < 0 || seed > 2147483646 || n < 0 || n > 300 {
		return out
	}
	m := machineOf(at(0))
	for s := uint64(seed); len(out) < n; {
		can := choosingExpected(p, m)
		if len(can) == 0 {
			break
		}
		s = s * 16807 % 2147483647
		c := can[s%uint64(len(can))]
		if asks(p, m, c) {
			c.Reply = int(s % 10000)
		}
		m, _ = doExpected(p, m, c)
		out = append(out, c)
	}
	return out
}

// runAsExpected fails if a row of choices is not looked at as this test's own machine tells; it returns how many can be made.
func runAsExpected(t *testing.T, p impl.Program, list []impl.Choice) int {
	t.Helper()
	machines := machinesExpected(p, list)
	long := len(machines) - 1
	is := long == len(list)
	if impl.RunLong(p, list) != long || impl.RunOk(p, list) != is {
		t.Fatalf("of %v %d choices of %v can be made: RunLong is %d, RunOk is %v", p, long, list, impl.RunLong(p, list), impl.RunOk(p, list))
	}
	chosen := []impl.Choice{}
	if is {
		chosen = choosingExpected(p, machines[long])
	} else {
		machines = nil
	}
	if got := impl.Choosing(p, list); !slices.Equal(got, chosen) {
		t.Fatalf("behind %v of %v can be chosen %v, want %v", list, p, got, chosen)
	}
	got := impl.Machines(p, list)
	if len(got) != len(machines) {
		t.Fatalf("%v of %v has %d machines, want %d", list, p, len(got), len(machines))
	}
	for k := range got {
		if !equal(got[k], machines[k]) {
			t.Fatalf("machine %d of %v of %v is %v, want %v", k, list, p, got[k], machines[k])
		}
	}
	for _, k := range []int{math.MinInt, -1, 0, 1, len(list) / 2, long, long + 1, len(list), len(list) + 1, math.MaxInt} {
		want := impl.Machine{}
		there := k >= 0 && k < len(machines)
		if there {
			want = machines[k]
		}
		if m, ok := impl.MachineAt(p, list, k); ok != there || !equal(m, want) {
			t.Fatalf("MachineAt(%v, %v, %d) = %v, %v, want %v, %v", p, list, k, m, ok, want, there)
		}
	}
	return long
}

// sliceOf returns so many choices of a kind and a thread.
func sliceOf(who int, kind int, many int) impl.Slice {
	return impl.Slice{Who: who, Kind: kind, Many: many}
}

// recordOf returns a recording of answers and slices.
func recordOf(answers []int, list ...impl.Slice) impl.Record {
	return impl.Record{Slices: list, Answers: answers}
}

func cloneRecord(r impl.Record) impl.Record {
	return recordOf(cloneInts(r.Answers), append([]impl.Slice{}, r.Slices...)...)
}

func sameRecord(a impl.Record, b impl.Record) bool {
	return slices.Equal(a.Slices, b.Slices) && slices.Equal(a.Answers, b.Answers)
}

// partRecord returns the slices and answers of choices that are made from a machine on.
func partRecord(p impl.Program, m impl.Machine, list []impl.Choice) impl.Record {
	r := impl.Record{}
	for len(list) > 0 {
		many := 1
		for many < len(list) && list[many].Who == list[0].Who && list[many].Kind == list[0].Kind {
			many++
		}
		r.Slices = append(r.Slices, sliceOf(list[0].Who, list[0].Kind, many))
		for _, c := range list[:many] {
			if asks(p, m, c) {
				r.Answers = append(r.Answers, c.Reply)
			}
			m, _ = doExpected(p, m, c)
		}
		list = list[many:]
	}
	return r
}

func recordExpected(p impl.Program, list []impl.Choice) (impl.Record, bool) {
	if len(machinesExpected(p, list)) != len(list)+1 {
		return impl.Record{}, false
	}
	return partRecord(p, machineOf(at(0)), list), true
}

// replayExpected makes choice by choice what a recording tells, and counts as it goes.
func replayExpected(p impl.Program, r impl.Record) ([]impl.Choice, bool) {
	if !impl.ProgramOk(p) {
		return nil, false
	}
	out := []impl.Choice{}
	m := machineOf(at(0))
	left := r.Answers
	for k, s := range r.Slices {
		if s.Many < 1 || k > 0 && s.Who == r.Slices[k-1].Who && s.Kind == r.Slices[k-1].Kind {
			return nil, false
		}
		for n := 0; n < s.Many; n++ {
			c := impl.Choice{Who: s.Who, Kind: s.Kind}
			if asks(p, m, c) && len(left) > 0 {
				c.Reply = left[0]
				left = left[1:]
			} else if asks(p, m, c) {
				return nil, false
			}
			next, ok := doExpected(p, m, c)
			if !ok || len(out) == 300 {
				return nil, false
			}
			m = next
			out = append(out, c)
		}
	}
	if len(left) > 0 {
		return nil, false
	}
	return out, true
}

func joinExpected(p impl.Program, r impl.Record, more impl.Record) (impl.Record, bool) {
	if _, ok := replayExpected(p, r); !ok {
		return impl.Record{}, false
	}
	out := cloneRecord(r)
	for k, s := range more.Slices {
		if s.Many < 1 || s.Many > 300 {
			return impl.Record{}, false
		}
		end := len(out.Slices) - 1
		if k == 0 && end >= 0 && out.Slices[end].Who == s.Who && out.Slices[end].Kind == s.Kind {
			out.Slices[end].Many += s.Many
			continue
		}
		out.Slices = append(out.Slices, s)
	}
	out.Answers = append(out.Answers, more.Answers...)
	if _, ok := replayExpected(p, out); !ok {
		return impl.Record{}, false
	}
	return out, true
}

// recordAsExpected fails if a recording is not looked at as this test's own machine tells; it returns whether it is one.
func recordAsExpected(t *testing.T, p impl.Program, r impl.Record) bool {
	t.Helper()
	list, is := replayExpected(p, r)
	got, ok := impl.Replay(p, r)
	if ok != is || !slices.Equal(got, list) {
		t.Fatalf("Replay(%v, %v) = %v, %v, want %v, %v", p, r, got, ok, list, is)
	}
	if impl.RecordOk(p, r) != is {
		t.Fatalf("RecordOk(%v, %v) = %v", p, r, !is)
	}
	for _, n := range []int{math.MinInt, -1, 0, 1, len(list) / 2, len(list) - 1, len(list), len(list) + 1, 300, 301, math.MaxInt} {
		want := impl.Record{}
		there := is && n >= 0 && n <= len(list)
		if there {
			want, _ = recordExpected(p, list[:n])
		}
		if cut, ok := impl.RecordCut(p, r, n); ok != there || !sameRecord(cut, want) {
			t.Fatalf("RecordCut(%v, %v, %d) = %v, %v, want %v, %v", p, r, n, cut, ok, want, there)
		}
	}
	return is
}

// joinedAsExpected fails if two recordings are not joined as this test's own machine tells; it returns whether they can be.
func joinedAsExpected(t *testing.T, p impl.Program, r impl.Record, more impl.Record) bool {
	t.Helper()
	want, is := joinExpected(p, r, more)
	got, ok := impl.RecordJoin(p, r, more)
	if ok != is || !sameRecord(got, want) {
		t.Fatalf("RecordJoin(%v, %v, %v) = %v, %v, want %v, %v", p, r, more, got, ok, want, is)
	}
	return is
}

// numBytes returns a number as a tape has it, by the numbers in bytes that Go's library knows.
func numBytes(n int) string {
	return string(binary.AppendUvarint(nil, uint64(n)))
}

func numExpected(s string, at int) (int, int, bool) {
	if at < 0 || at >= len(s) {
		return 0, 0, false
	}
	n, many := binary.Uvarint([]byte(s[at:]))
	if many <= 0 || n > math.MaxInt || numBytes(int(n)) != s[at:at+many] {
		return 0, 0, false
	}
	return int(n), at + many, true
}

// numsOn returns the numbers that stand on a tape, up to where there is none.
func numsOn(tape string) []int {
	out := []int{}
	n, next, ok := numExpected(tape, 0)
	for ok {
		out = append(out, n)
		n, next, ok = numExpected(tape, next)
	}
	return out
}

func tapeExpected(p impl.Program, r impl.Record) string {
	list, ok := replayExpected(p, r)
	if !ok {
		return ""
	}
	machines := machinesExpected(p, list)
	tape := ""
	k := 0
	for _, s := range r.Slices {
		tape += numBytes(s.Who<<1|s.Kind) + numBytes(s.Many)
		for range s.Many {
			if asks(p, machines[k], list[k]) {
				tape += numBytes(list[k].Reply)
			}
			k++
		}
	}
	return tape
}

// readExpected makes the choices of a tape from a row of all its numbers.
func readExpected(p impl.Program, tape string) []impl.Choice {
	out := []impl.Choice{}
	if !impl.ProgramOk(p) {
		return out
	}
	m := machineOf(at(0))
	nums := numsOn(tape)
	for len(nums) > 1 {
		who, kind, many := nums[0]/2, nums[0]%2, nums[1]
		nums = nums[2:]
		for many > 0 {
			c := impl.Choice{Who: who, Kind: kind}
			if asks(p, m, c) && len(nums) == 0 {
				return out
			} else if asks(p, m, c) {
				c.Reply = nums[0]
				nums = nums[1:]
			}
			next, ok := doExpected(p, m, c)
			if !ok || len(out) == 300 {
				return out
			}
			m = next
			out = append(out, c)
			many--
		}
	}
	return out
}

// tapeAsExpected fails if bytes are not looked at as this test's own machine tells; it returns the choices that stand there, and whether they are a tape.
func tapeAsExpected(t *testing.T, p impl.Program, tape string) ([]impl.Choice, bool) {
	t.Helper()
	list := readExpected(p, tape)
	if got := impl.ReadTape(p, tape); !slices.Equal(got, list) {
		t.Fatalf("on %q of %v stands %v, want %v", tape, p, got, list)
	}
	want, is := recordExpected(p, list)
	mended := tapeExpected(p, want)
	if got := impl.TapeMend(p, tape); got != mended {
		t.Fatalf("%q of %v is mended as %q, want %q", tape, p, got, mended)
	}
	if is && mended != tape {
		want, is = impl.Record{}, false
	}
	if r, ok := impl.TapeRecord(p, tape); ok != is || !sameRecord(r, want) {
		t.Fatalf("%q of %v is the tape of %v, %v, want %v, %v", tape, p, r, ok, want, is)
	}
	if impl.TapeOk(p, tape) != is {
		t.Fatalf("%q is a tape of %v: %v", tape, p, !is)
	}
	return list, is
}

// marksAt returns the marks of machines at places.
func marksAt(machines []impl.Machine, places ...int) []impl.Mark {
	out := []impl.Mark{}
	for _, place := range places {
		out = append(out, impl.Mark{At: place, M: clone(machines[place])})
	}
	return out
}

func placesOf(marks []impl.Mark) []int {
	out := []int{}
	for _, x := range marks {
		out = append(out, x.At)
	}
	return out
}

func sameMarks(a []impl.Mark, b []impl.Mark) bool {
	if !sameInts(placesOf(a), placesOf(b)) {
		return false
	}
	for k := range a {
		if !equal(a[k].M, b[k].M) {
			return false
		}
	}
	return true
}

func ascends(list []int) bool {
	for k := range list {
		if k > 0 && list[k] <= list[k-1] {
			return false
		}
	}
	return true
}

func marksExpected(p impl.Program, list []impl.Choice, marks []impl.Mark) bool {
	machines := machinesExpected(p, list)
	if len(machines) != len(list)+1 || !ascends(placesOf(marks)) {
		return false
	}
	for _, x := range marks {
		if x.At < 0 || x.At > len(list) || !equal(x.M, machines[x.At]) {
			return false
		}
	}
	return true
}

// nearExpected looks at one place after the other, from the last one on.
func nearExpected(places []int, at int) int {
	for k := len(places) - 1; k >= 0 && ascends(places); k-- {
		if places[k] <= at {
			return k
		}
	}
	return -1
}

func arriveExpected(p impl.Program, list []impl.Choice, marks []impl.Mark, at int) (impl.Machine, int, bool) {
	if at < 0 || at > len(list) || !marksExpected(p, list, marks) {
		return impl.Machine{}, 0, false
	}
	way := at
	for _, x := range marks {
		if x.At <= at {
			way = at - x.At
		}
	}
	return machinesExpected(p, list)[at], way, true
}

// keptExpected goes by the bits that are 0 at the end of a place, as four times a power of 2 may be no int.
func keptExpected(at int, now int) bool {
	if at <= 0 || at >= now {
		return at >= 0 && now >= 0 && (at == 0 || at == now)
	}
	zeros := bits.TrailingZeros64(uint64(at)) + 2
	return zeros >= 63 || 1<<zeros > now-at
}

// keptPlaces returns the places that are kept when a run has come to a place.
func keptPlaces(now int) []int {
	out := []int{}
	for at := 0; at <= now; at++ {
		if keptExpected(at, now) {
			out = append(out, at)
		}
	}
	return out
}

// marksAsExpected fails if marks are not looked at as this test's own machine tells; it returns whether they are marks of the run.
func marksAsExpected(t *testing.T, p impl.Program, list []impl.Choice, marks []impl.Mark) bool {
	t.Helper()
	is := marksExpected(p, list, marks)
	if impl.MarksOk(p, list, marks) != is {
		t.Fatalf("%v are marks of %v of %v: %v", marks, list, p, !is)
	}
	places := []int{math.MinInt, -1, 0, 1, len(list) / 2, len(list) - 1, len(list), len(list) + 1, 301, math.MaxInt}
	if len(marks) > 0 {
		middle := marks[len(marks)/2].At
		places = append(places, middle-1, middle, middle+1)
	}
	for _, k := range places {
		if near := nearExpected(placesOf(marks), k); impl.MarkNear(marks, k) != near {
			t.Fatalf("of marks at %v the last one up to %d is %d, want %d", placesOf(marks), k, impl.MarkNear(marks, k), near)
		}
		want, way, there := arriveExpected(p, list, marks, k)
		m, n, ok := impl.Arrive(p, list, marks, k)
		if ok != there || n != way || !equal(m, want) {
			t.Fatalf("Arrive(%v, %v, %v, %d) = %v, %d, %v, want %v, %d, %v", p, list, marks, k, m, n, ok, want, way, there)
		}
	}
	return is
}

func cloneUndo(u impl.Undo) impl.Undo {
	u.Old = cloneThread(u.Old)
	return u
}

func sameUndo(a impl.Undo, b impl.Undo) bool {
	return a.Who == b.Who && equalThreads(a.Old, b.Old) && a.Cell == b.Cell && a.Was == b.Was &&
		a.Lock == b.Lock && a.Held == b.Held && a.Begun == b.Begun && a.Told == b.Told
}

// undoExpected looks at what is another thing behind the choice; but for cells, as a store may leave one as it is.
func undoExpected(p impl.Program, m impl.Machine, c impl.Choice) (impl.Undo, bool) {
	next, ok := doExpected(p, m, c)
	if !ok {
		return impl.Undo{}, false
	}
	u := impl.Undo{Who: c.Who, Old: cloneThread(m.Threads[c.Who]), Cell: -1, Lock: -1}
	u.Begun = len(next.Threads) > len(m.Threads)
	u.Told = len(next.Told) > len(m.Told)
	for k := range m.Locks {
		if m.Locks[k] != next.Locks[k] {
			u.Lock = k
			u.Held = m.Locks[k]
		}
	}
	if code, _ := instrExpected(p, m, c.Who); code.Op == impl.OpStore && c.Kind == impl.ChoiceStep {
		u.Cell = (u.Old.Regs[code.B] + code.C) % 8
		u.Was = m.Cells[u.Cell]
	}
	return u, true
}

// takenExpected writes into a copy of the machine, one after the other, what an undo tells.
func takenExpected(m impl.Machine, u impl.Undo) (impl.Machine, bool) {
	out := clone(m)
	if u.Begun && len(out.Threads) == 0 || u.Told && len(out.Told) == 0 {
		return impl.Machine{}, false
	}
	if u.Begun {
		out.Threads = out.Threads[:len(out.Threads)-1]
	}
	if u.Told {
		out.Told = out.Told[:len(out.Told)-1]
	}
	if !within([]int{u.Who}, 0, len(out.Threads)-1) || !within([]int{u.Cell}, -1, len(out.Cells)-1) || !within([]int{u.Lock}, -1, len(out.Locks)-1) {
		return impl.Machine{}, false
	}
	out.Threads[u.Who] = cloneThread(u.Old)
	if u.Cell != -1 {
		out.Cells[u.Cell] = u.Was
	}
	if u.Lock != -1 {
		out.Locks[u.Lock] = u.Held
	}
	return out, true
}

// undoAsExpected fails if what is needed to take back a choice is not what this test's own machine tells.
func undoAsExpected(t *testing.T, p impl.Program, m impl.Machine, c impl.Choice) (impl.Undo, bool) {
	t.Helper()
	want, there := undoExpected(p, m, c)
	got, ok := impl.UndoOf(p, m, c)
	if ok != there || !sameUndo(got, want) {
		t.Fatalf("UndoOf(%v, %v, %v)\n = %v, %v\nwant %v, %v", p, m, c, got, ok, want, there)
	}
	return got, ok
}

// takenAsExpected fails if an undo is not taken back as this test's own machine tells.
func takenAsExpected(t *testing.T, m impl.Machine, u impl.Undo) (impl.Machine, bool) {
	t.Helper()
	want, there := takenExpected(m, u)
	got, ok := impl.TakeBack(m, u)
	if ok != there || !equal(got, want) {
		t.Fatalf("TakeBack(%v, %v)\n = %v, %v\nwant %v, %v", m, u, got, ok, want, there)
	}
	return got, ok
}

// undosAsExpected fails if a row of choices is not taken back as this test's own machine tells; it returns whether it is a run.
func undosAsExpected(t *testing.T, p impl.Program, list []impl.Choice) bool {
	t.Helper()
	machines := machinesExpected(p, list)
	is := len(machines) == len(list)+1
	undos := impl.UndosOf(p, list)
	if is && len(undos) != len(list) || !is && len(undos) != 0 {
		t.Fatalf("%v of %v has %d undos", list, p, len(undos))
	}
	for k, u := range undos {
		if want, _ := undoExpected(p, machines[k], list[k]); !sameUndo(u, want) {
			t.Fatalf("undo %d of %v of %v is %v, want %v", k, list, p, u, want)
		}
	}
	for _, k := range []int{math.MinInt, -1, 0, 1, len(list) / 2, len(list) - 1, len(list), len(list) + 1, 300, 301, math.MaxInt} {
		want := impl.Machine{}
		there := is && k >= 0 && k <= len(list)
		if there {
			want = machines[k]
		}
		if m, ok := impl.BackFrom(p, list, k); ok != there || !equal(m, want) {
			t.Fatalf("BackFrom(%v, %v, %d) = %v, %v, want %v, %v", p, list, k, m, ok, want, there)
		}
	}
	return is
}

// partTopsByKind returns for each kind of part what A and B are less than, and -1 for an index of a part ahead.
func partTopsByKind() [][2]int {
	return [][2]int{{10000, 1}, {4, 4}, {8, 1}, {4, 1}, {4, 1}, {4, 1}, {1, 1}, {-1, -1}, {-1, -1}, {-1, -1}, {-1, -1}, {-1, 1}}
}

func whenExpected(list []impl.Part) bool {
	tops := partTopsByKind()
	for k, x := range list {
		if x.Kind < 0 || x.Kind >= len(tops) {
			return false
		}
		for i, n := range []int{x.A, x.B} {
			top := tops[x.Kind][i]
			if top == -1 {
				top = k
			}
			if n < 0 || n >= top {
				return false
			}
		}
	}
	return len(list) > 0 && len(list) < 21
}

// lookedExpected returns what a machine has for a part that is made of no other ones.
func lookedExpected(m impl.Machine, x impl.Part) int {
	n := 0
	switch x.Kind {
	case impl.PartNumber:
		n = x.A
	case impl.PartCell:
		if x.A < len(m.Cells) {
			n = m.Cells[x.A]
		}
	case impl.PartTold:
		n = len(m.Told)
	default:
		if x.A < len(m.Threads) {
			u := m.Threads[x.A]
			regs := append(cloneInts(u.Regs), 0, 0, 0, 0)
			n = map[int]int{impl.PartReg: regs[x.B], impl.PartAt: u.At, impl.PartDeep: len(u.Stack), impl.PartState: u.State}[x.Kind]
		}
	}
	if n < 0 || n > 9999 {
		return 0
	}
	return n
}

// partExpected comes to the number of a part from behind, by those parts alone that it is made of; known has those that were looked at.
func partExpected(m impl.Machine, list []impl.Part, k int, known map[int]int) int {
	if n, ok := known[k]; ok {
		return n
	}
	x := list[k]
	n := 0
	if x.Kind < impl.PartAdd {
		n = lookedExpected(m, x)
	} else {
		a := partExpected(m, list, x.A, known)
		b := partExpected(m, list, x.B, known)
		n = map[int]int{
			impl.PartAdd:  (a + b) % 10000,
			impl.PartLess: numberOf(a < b),
			impl.PartSame: numberOf(a == b),
			impl.PartAnd:  numberOf(a > 0 && b > 0),
			impl.PartNot:  numberOf(a == 0),
		}[x.Kind]
	}
	known[k] = n
	return n
}

func numberOf(so bool) int {
	if so {
		return 1
	}
	return 0
}

func valueExpected(m impl.Machine, list []impl.Part) int {
	if !whenExpected(list) {
		return -1
	}
	return partExpected(m, list, len(list)-1, map[int]int{})
}

// bothExpected leads each index of the second expression to where its part stands in both.
func bothExpected(a []impl.Part, b []impl.Part) []impl.Part {
	if !whenExpected(a) || !whenExpected(b) || len(a)+len(b) > 19 {
		return nil
	}
	out := append([]impl.Part{}, a...)
	for _, x := range b {
		if x.Kind >= impl.PartAdd {
			x.A += len(a)
		}
		if x.Kind >= impl.PartAdd && x.Kind != impl.PartNot {
			x.B += len(a)
		}
		out = append(out, x)
	}
	return append(out, impl.Part{Kind: impl.PartAnd, A: len(a) - 1, B: len(a) + len(b) - 1})
}

// contraryExpected puts behind an expression that its last part is 0.
func contraryExpected(list []impl.Part) []impl.Part {
	if !whenExpected(list) || len(list) > 19 {
		return nil
	}
	return append(append([]impl.Part{}, list...), impl.Part{Kind: impl.PartNot, A: len(list) - 1})
}

// whenAsExpected fails if parts are not looked at in a machine as this test's own tell; it returns whether they are an expression.
func whenAsExpected(t *testing.T, m impl.Machine, list []impl.Part) bool {
	t.Helper()
	is := whenExpected(list)
	if impl.WhenOk(list) != is {
		t.Fatalf("%v is an expression: %v", list, !is)
	}
	want := valueExpected(m, list)
	if got := impl.WhenValue(m, list); got != want {
		t.Fatalf("the number of %v in %v is %d, want %d", list, m, got, want)
	}
	if impl.Holds(m, list) != (want > 0) {
		t.Fatalf("%v holds in %v: %v", list, m, want <= 0)
	}
	if got, want := impl.WhenNot(list), contraryExpected(list); !slices.Equal(got, want) {
		t.Fatalf("the contrary of %v is %v, want %v", list, got, want)
	}
	return is
}

// truthsExpected returns at which places of a run an expression holds; none of what is no run, and for what is no expression.
func truthsExpected(p impl.Program, list []impl.Choice, when []impl.Part) []bool {
	machines := machinesExpected(p, list)
	out := []bool{}
	if whenExpected(when) && len(machines) == len(list)+1 {
		for _, m := range machines {
			out = append(out, valueExpected(m, when) > 0)
		}
	}
	return out
}

// truthsAsExpected fails if there are other truths of a row of choices than this test's own; it returns whether there are any.
func truthsAsExpected(t *testing.T, p impl.Program, list []impl.Choice, when []impl.Part) bool {
	t.Helper()
	want := truthsExpected(p, list, when)
	if got := impl.Truths(p, list, when); !slices.Equal(got, want) {
		t.Fatalf("%v of %v of %v has the truths %v, want %v", when, list, p, got, want)
	}
	return len(want) > 0
}

// placesExpected, and those below it, go by the truths of a run alone.
func placesExpected(truths []bool) []int {
	out := []int{}
	for k, so := range truths {
		if so {
			out = append(out, k)
		}
	}
	return out
}

func turnsExpected(truths []bool) []int {
	out := []int{}
	for k, so := range truths {
		if so != truths[max(k-1, 0)] {
			out = append(out, k)
		}
	}
	return out
}

func countExpected(truths []bool, at int, n int) (int, bool) {
	if at < 0 || at >= len(truths) || n < 1 {
		return 0, false
	}
	behind := placesExpected(truths[at+1:])
	if n > len(behind) {
		return len(truths) - 1, false
	}
	return at + 1 + behind[n-1], true
}

func backExpected(truths []bool, at int) (int, bool) {
	if at < 0 || at >= len(truths) {
		return 0, false
	}
	ahead := placesExpected(truths[:at])
	if len(ahead) == 0 {
		return 0, false
	}
	return ahead[len(ahead)-1], true
}

// turnExpected looks in the first half, and in the second one if there is no turn to be found in the first.
func turnExpected(truths []bool, low int, high int) (int, int, bool) {
	if low < 0 || low >= high || high >= len(truths) || truths[low] == truths[high] {
		return 0, 0, false
	}
	if low+1 == high {
		return high, 0, true
	}
	half := low + (high-low)/2
	place, looks, ok := turnExpected(truths, low, half)
	if !ok {
		place, looks, _ = turnExpected(truths, half, high)
	}
	return place, looks + 1, true
}

// soughtAsExpected fails if from a place one comes elsewhere than the truths of a run tell.
func soughtAsExpected(t *testing.T, p impl.Program, list []impl.Choice, when []impl.Part, truths []bool, at int) {
	t.Helper()
	want, there := countExpected(truths, at, 1)
	if k, ok := impl.NextWhen(p, list, when, at); k != want || ok != there {
		t.Fatalf("NextWhen(%v, %v, %v, %d) = %d, %v, want %d, %v", p, list, when, at, k, ok, want, there)
	}
	want, there = backExpected(truths, at)
	if k, ok := impl.BackWhen(p, list, when, at); k != want || ok != there {
		t.Fatalf("BackWhen(%v, %v, %v, %d) = %d, %v, want %d, %v", p, list, when, at, k, ok, want, there)
	}
	for _, n := range []int{math.MinInt, -1, 0, 1, 2, 3, len(placesExpected(truths)), math.MaxInt} {
		want, there = countExpected(truths, at, n)
		if k, ok := impl.CountNext(p, list, when, at, n); k != want || ok != there {
			t.Fatalf("CountNext(%v, %v, %v, %d, %d) = %d, %v, want %d, %v", p, list, when, at, n, k, ok, want, there)
		}
	}
}

// turnAsExpected fails if between two places another turn is found than the truths of a run tell, or by more or fewer looks; it returns whether there is one.
func turnAsExpected(t *testing.T, p impl.Program, list []impl.Choice, when []impl.Part, truths []bool, low int, high int) bool {
	t.Helper()
	want, looks, there := turnExpected(truths, low, high)
	k, n, ok := impl.TurnByHalves(p, list, when, low, high)
	if k != want || n != looks || ok != there {
		t.Fatalf("TurnByHalves(%v, %v, %v, %d, %d) = %d, %d, %v, want %d, %d, %v", p, list, when, low, high, k, n, ok, want, looks, there)
	}
	return there
}

// allSoughtAsExpected fails if of all that is sought in a run anything is elsewhere than its truths tell; it looks at all places that are told.
func allSoughtAsExpected(t *testing.T, p impl.Program, list []impl.Choice, when []impl.Part, truths []bool, places []int) {
	t.Helper()
	if got, want := impl.PlacesWhen(p, list, when), placesExpected(truths); !slices.Equal(got, want) {
		t.Fatalf("%v holds in %v of %v at %v, want %v", when, list, p, got, want)
	}
	if got, want := impl.TurnsWhen(p, list, when), turnsExpected(truths); !slices.Equal(got, want) {
		t.Fatalf("the turns of %v in %v of %v are %v, want %v", when, list, p, got, want)
	}
	for _, at := range places {
		soughtAsExpected(t, p, list, when, truths, at)
		for _, high := range places {
			turnAsExpected(t, p, list, when, truths, at, high)
		}
	}
}
