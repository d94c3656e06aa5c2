package tests

import (
	"math"

	"loop.example/backintime/impl"
)

// dice gives numbers that are the same each time the tests run.
type dice struct {
	seed int
}

func (d *dice) below(n int) int {
	d.seed = d.seed * 16807 % 2147483647
	return d.seed % n
}

func (d *dice) oneOf(list []int) int {
	return list[d.below(len(list))]
}

// word returns a number of a register or a cell, often one near an edge.
func (d *dice) word() int {
	if d.below(2) == 0 {
		return d.oneOf([]int{0, 0, 1, 2, 7, 8, 9, 100, 4999, 5000, 9998, 9999})
	}
	return d.below(10000)
}

func (d *dice) words(many int) []int {
	out := []int{}
	for i := 0; i < many; i++ {
		out = append(out, d.word())
	}
	return out
}

func (d *dice) numbers(many int, low int, top int) []int {
	out := []int{}
	for i := 0; i < many; i++ {
		out = append(out, low+d.below(top-low))
	}
	return out
}

// code returns an instruction of a program with so many of them.
func (d *dice) code(many int) impl.Code {
	op := d.below(18)
	u := usesByOp()[op]
	c := impl.Code{Op: op, A: d.below(max(regTop(u.a), 1)), B: d.below(max(regTop(u.b), 1))}
	if u.place {
		c.C = d.below(many)
	} else {
		c.C = d.below(max(u.cTop, 1))
	}
	return c
}

func (d *dice) program() impl.Program {
	many := d.oneOf([]int{1, 2, 3, 5, 10, 59, 60})
	p := impl.Program{Handler: d.below(many+1) - 1}
	for i := 0; i < many; i++ {
		p.Rows = append(p.Rows, d.code(many))
	}
	return p
}

func (d *dice) thread(many int) impl.Thread {
	return impl.Thread{
		At:    d.below(many + 1),
		Regs:  d.words(4),
		Stack: d.numbers(d.oneOf([]int{0, 0, 1, 3, 5, 6, 6}), 0, many+1),
		State: d.oneOf([]int{0, 0, 0, 0, 1, 2}),
	}
}

func (d *dice) machine(p impl.Program) impl.Machine {
	m := impl.Machine{Cells: d.words(8), Told: d.words(d.oneOf([]int{0, 0, 1, 5, 999, 1000}))}
	for i := d.below(4); i >= 0; i-- {
		m.Threads = append(m.Threads, d.thread(len(p.Rows)))
	}
	m.Locks = d.numbers(2, -1, len(m.Threads))
	return m
}

func (d *dice) choice() impl.Choice {
	c := impl.Choice{Who: d.oneOf([]int{-1, 0, 0, 0, 0, 1, 1, 1, 2, 2, 3, 4}), Kind: d.oneOf([]int{0, 0, 0, 0, 0, 0, 1, 1, 2, -1})}
	if d.below(5) == 0 {
		c.Reply = d.oneOf([]int{-1, 1, 77, 9999, 10000, math.MinInt, math.MaxInt})
	}
	return c
}

// oneIn returns 1 once in so many times, and else 0.
func (d *dice) oneIn(many int) int {
	if d.below(many) == 0 {
		return 1
	}
	return 0
}

// mangled returns a list that is longer, shorter, or has a number that it may not have.
func (d *dice) mangled(list []int) []int {
	out := cloneInts(list)
	switch d.below(4) {
	case 0:
		return out[:d.below(len(out)+1)]
	case 1:
		return append(out, make([]int, d.oneOf([]int{1, 2, 990, 1000}))...)
	case 2:
		if len(out) > 0 {
			out[d.below(len(out))] = d.oneOf(fieldsNear())
		}
	}
	return out
}

func (d *dice) mangledMachine(m impl.Machine) impl.Machine {
	out := clone(m)
	who := d.below(len(out.Threads))
	switch d.below(16) {
	case 0:
		out.Cells = d.mangled(out.Cells)
	case 1:
		out.Locks = d.mangled(out.Locks)
	case 2:
		out.Told = d.mangled(out.Told)
	case 3:
		out.Threads[who].Regs = d.mangled(out.Threads[who].Regs)
	case 4:
		out.Threads[who].Stack = d.mangled(out.Threads[who].Stack)
	case 5:
		out.Threads[who].At = d.oneOf(fieldsNear())
	case 6:
		out.Threads[who].State = d.oneOf(fieldsNear())
	case 7:
		for many := d.oneOf([]int{0, 1, 2, 3, 4, 5, 6, 1000}); len(out.Threads) < many; {
			out.Threads = append(out.Threads, cloneThread(out.Threads[0]))
		}
	}
	return out
}

func (d *dice) mangledProgram(p impl.Program) impl.Program {
	out := impl.Program{Rows: append([]impl.Code{}, p.Rows...), Handler: p.Handler}
	at := d.below(len(out.Rows))
	switch d.below(12) {
	case 0:
		out.Handler = d.oneOf(fieldsNear())
	case 1:
		out.Rows[at].Op = d.oneOf(fieldsNear())
	case 2:
		out.Rows[at].A = d.oneOf(fieldsNear())
	case 3:
		out.Rows[at].C = d.oneOf(fieldsNear())
	case 4:
		out.Rows = out.Rows[:at]
	case 5:
		out.Rows = append(out.Rows, rowsOf(d.oneOf([]int{1, 60, 900}))...)
	}
	return out
}

// lively returns a program whose threads mostly go on: what ends one is seldom, and the last instruction leads back.
func (d *dice) lively() impl.Program {
	p := d.program()
	many := len(p.Rows)
	for i, c := range p.Rows {
		switch c.Op {
		case impl.OpHalt, impl.OpRet, impl.OpFree, impl.OpLock, impl.OpBegin, impl.OpCall:
			if d.below(3) > 0 {
				p.Rows[i] = impl.Code{Op: d.oneOf([]int{impl.OpAsk, impl.OpTell}), A: d.below(4)}
			}
		}
	}
	p.Rows[many-1] = impl.Code{Op: impl.OpJump, C: d.below(many)}
	return p
}

// run returns a run of a program with at most so many choices; fewer only if none is left.
func (d *dice) run(p impl.Program, n int) []impl.Choice {
	out := []impl.Choice{}
	m := machineOf(at(0))
	for len(out) < n {
		can := choosingExpected(p, m)
		if len(can) == 0 {
			return out
		}
		c := can[d.below(len(can))]
		if c.Kind == impl.ChoiceSignal {
			c = can[d.below(len(can))]
		}
		if asks(p, m, c) {
			c.Reply = d.word()
		}
		m, _ = doExpected(p, m, c)
		out = append(out, c)
	}
	return out
}

// mangledRun returns a row of choices with one more, one less or another one somewhere, or with many behind it.
func (d *dice) mangledRun(list []impl.Choice) []impl.Choice {
	k := d.below(len(list) + 1)
	ahead := append([]impl.Choice{}, list[:k]...)
	behind := append([]impl.Choice{}, list[k:]...)
	switch d.below(6) {
	case 0:
		return append(append(ahead, d.choice()), behind...)
	case 1:
		return append(append(ahead, d.choice()), behind[min(1, len(behind)):]...)
	case 2:
		return append(ahead, behind[min(1, len(behind)):]...)
	case 3:
		return append(append(ahead, behind...), make([]impl.Choice, d.oneOf([]int{1, 300, 1000}))...)
	case 4:
		n := d.oneOf(fieldsNear())
		bad := []impl.Choice{{Who: n}, {Kind: n}, {Reply: n}}
		return append(append(ahead, bad[d.below(3)]), behind...)
	}
	return ahead
}

// longRun returns a run of a program with at most so many choices, in which a thread often goes on for many steps.
func (d *dice) longRun(p impl.Program, n int) []impl.Choice {
	out := []impl.Choice{}
	m := machineOf(at(0))
	now := impl.Choice{}
	for len(out) < n {
		can := choosingExpected(p, m)
		if len(can) == 0 {
			return out
		}
		now.Reply = 0
		if d.below(5) == 0 || !canExpected(p, m, now) {
			now = can[d.below(len(can))]
		}
		if asks(p, m, now) {
			now.Reply = d.word()
		}
		m, _ = doExpected(p, m, now)
		out = append(out, now)
	}
	return out
}

// mangledRecord returns a recording with a slice or an answer that is there twice, is missing, or is another one.
func (d *dice) mangledRecord(r impl.Record) impl.Record {
	k := d.below(len(r.Slices) + 1)
	n := d.below(len(r.Answers) + 1)
	ahead := append([]impl.Slice{}, r.Slices[:k]...)
	behind := append([]impl.Slice{}, r.Slices[k:]...)
	answers := append([]int{}, r.Answers[:n]...)
	later := append([]int{}, r.Answers[n:]...)
	switch d.below(12) {
	case 0:
		ahead = append(ahead, sliceOf(d.below(5)-1, d.below(3), d.oneOf([]int{-1, 0, 1, 2, 300})))
	case 1:
		if len(behind) > 0 {
			many := d.below(behind[0].Many + 1)
			ahead = append(ahead, sliceOf(behind[0].Who, behind[0].Kind, many))
			behind[0].Many -= many
		}
	case 2:
		if len(behind) > 0 {
			behind[0].Many = d.oneOf(append(fieldsNear(), 299, 300, 301, behind[0].Many-1, behind[0].Many+1))
		}
	case 3:
		if len(behind) > 0 {
			behind[0].Who = d.oneOf(fieldsNear())
		}
	case 4:
		if len(behind) > 0 {
			behind[0].Kind = d.oneOf(fieldsNear())
		}
	case 5:
		behind = behind[min(1, len(behind)):]
	case 6:
		behind = append(behind, make([]impl.Slice, d.oneOf([]int{1, 300, 1000}))...)
	case 7:
		later = later[min(1, len(later)):]
	case 8:
		answers = append(answers, d.word())
	case 9:
		if len(later) > 0 {
			later[0] = d.oneOf(fieldsNear())
		}
	case 10:
		later = append(later, make([]int, d.oneOf([]int{1, 300, 1000}))...)
	}
	return recordOf(append(answers, later...), append(ahead, behind...)...)
}

// bytes returns so many bytes, most of them such as tapes have.
func (d *dice) bytes(many int) string {
	out := []byte{}
	for i := 0; i < many; i++ {
		out = append(out, byte(d.oneOf([]int{0, 0, 0, 1, 1, 1, 2, 2, 3, 4, 5, 6, 7, 42, 126, 127, 128, 129, 255, d.below(256)})))
	}
	return string(out)
}

// overlong returns a number in so many bytes more than needed.
func overlong(n int, more int) string {
	out := []byte(numBytes(n))
	for ; more > 0; more-- {
		out[len(out)-1] |= 128
		out = append(out, 0)
	}
	return string(out)
}

// mangledTape returns a tape of which bytes are gone, are other ones, or more than there were.
func (d *dice) mangledTape(tape string) string {
	k := d.below(len(tape) + 1)
	ahead, behind := tape[:k], tape[k:]
	rest := behind[min(1, len(behind)):]
	switch d.below(8) {
	case 0:
		return ahead
	case 1:
		return ahead + rest
	case 2:
		return ahead + d.bytes(1) + behind
	case 3:
		return ahead + d.bytes(1) + rest
	case 4:
		return tape + d.bytes(d.oneOf([]int{1, 2, 5, 100}))
	case 5:
		return ahead + d.bytes(d.oneOf([]int{1, 2, 5, 100}))
	case 6:
		return d.mangledNums(tape)
	}
	return tape
}

// mangledNums returns a tape of which one number is gone, is another one, has more bytes than needed, or has others ahead of it.
func (d *dice) mangledNums(tape string) string {
	nums := append(numsOn(tape), 0)
	k := d.below(len(nums))
	now := numBytes(nums[k])
	out := ""
	for _, n := range nums[:k] {
		out += numBytes(n)
	}
	behind := tape[min(len(out)+len(now), len(tape)):]
	switch d.below(6) {
	case 0:
		return out + behind
	case 1:
		return out + overlong(nums[k], 1+d.below(2)) + behind
	case 2:
		return out + numBytes(nums[k]+1) + behind
	case 3:
		return out + numBytes(d.oneOf([]int{0, 1, 8, 127, 128, 300, 301, 9999, 10000, 16384, math.MaxInt})) + behind
	case 4:
		return out + numBytes(d.below(9)) + "\x00" + now + behind
	}
	return out + now + now + behind
}

// marks returns some marks of machines: none, few, many, or all.
func (d *dice) marks(machines []impl.Machine) []impl.Mark {
	places := []int{}
	each := d.oneOf([]int{1, 2, 3, 10, 100})
	for k := range machines {
		if d.below(each) == 0 {
			places = append(places, k)
		}
	}
	if d.below(8) == 0 {
		places = nil
	}
	return marksAt(machines, places...)
}

// mangledMarks returns marks of machines of which one is gone, is there twice, is at another place, or has another machine.
func (d *dice) mangledMarks(marks []impl.Mark, machines []impl.Machine) []impl.Mark {
	out := marksAt(machines, placesOf(marks)...)
	if len(out) == 0 {
		return []impl.Mark{{At: d.oneOf(fieldsNear()), M: machines[0]}}
	}
	k := d.below(len(out))
	other := d.below(len(out))
	switch d.below(10) {
	case 0:
		return append(out[:k], out[k+1:]...)
	case 1:
		return append(out[:k+1], marksAt(machines, placesOf(marks[k:])...)...)
	case 2:
		out[k], out[other] = out[other], out[k]
	case 3:
		out[k].At = d.oneOf(append(fieldsNear(), len(machines)-1, len(machines), 300, 301))
	case 4:
		out[k].At += d.oneOf([]int{-1, 1})
	case 5:
		out[k].M = d.mangledMachine(out[k].M)
	case 6:
		out[k].M = clone(machines[d.below(len(machines))])
	case 7:
		return append(out, impl.Mark{At: len(machines), M: machines[len(machines)-1]})
	case 8:
		return append(out, make([]impl.Mark, d.oneOf([]int{1, 300, 1000}))...)
	}
	return out
}

// undo returns what could be an undo in a machine, or nearly: of a thread, a cell and a lock that may be there.
func (d *dice) undo(m impl.Machine) impl.Undo {
	u := impl.Undo{Who: d.below(len(m.Threads) + 1), Old: d.thread(5), Cell: -1, Lock: -1}
	if d.below(2) == 0 {
		u.Cell = d.below(9) - 1
		u.Was = d.word()
	}
	if d.below(2) == 0 {
		u.Lock = d.below(4) - 1
		u.Held = d.below(5) - 1
	}
	u.Begun = d.below(3) == 0
	u.Told = d.below(3) == 0
	return u
}

// mangledUndo returns an undo in which at most one thing is another one.
func (d *dice) mangledUndo(u impl.Undo) impl.Undo {
	out := cloneUndo(u)
	switch d.below(16) {
	case 0:
		out.Who = d.oneOf(fieldsNear())
	case 1:
		out.Cell = d.oneOf(fieldsNear())
	case 2:
		out.Was = d.oneOf(fieldsNear())
	case 3:
		out.Lock = d.oneOf(fieldsNear())
	case 4:
		out.Held = d.oneOf(fieldsNear())
	case 5:
		out.Begun = !out.Begun
	case 6:
		out.Told = !out.Told
	case 7:
		out.Old.At = d.oneOf(fieldsNear())
	case 8:
		out.Old.State = d.oneOf(fieldsNear())
	case 9:
		out.Old.Regs = d.mangled(out.Old.Regs)
	case 10:
		out.Old.Stack = d.mangled(out.Old.Stack)
	}
	return out
}

// look returns a part that is made of no other ones.
func (d *dice) look() impl.Part {
	kind := d.oneOf([]int{impl.PartNumber, impl.PartReg, impl.PartReg, impl.PartCell, impl.PartCell, impl.PartAt, impl.PartDeep, impl.PartState, impl.PartTold})
	if kind == impl.PartNumber {
		return impl.Part{A: d.oneOf([]int{0, 0, 1, 2, 5000, 9999, d.word()})}
	}
	tops := partTopsByKind()[kind]
	return impl.Part{Kind: kind, A: d.below(tops[0]), B: d.below(tops[1])}
}

// when returns an expression of so many parts, of which the last one is mostly made of others.
func (d *dice) when(many int) []impl.Part {
	out := []impl.Part{}
	for k := 0; k < many; k++ {
		if k == 0 || d.below(5) < 2 && k < many-1 || d.below(8) == 0 {
			out = append(out, d.look())
			continue
		}
		x := impl.Part{Kind: impl.PartAdd + d.below(5), A: d.below(k), B: d.below(k)}
		if x.Kind == impl.PartNot {
			x.B = 0
		}
		out = append(out, x)
	}
	return out
}

func (d *dice) manyParts() int {
	return d.oneOf([]int{1, 1, 2, 2, 3, 4, 5, 8, 9, 10, 12, 18, 19, 20})
}

// mangledWhen returns parts of which one is gone, is there twice, stands elsewhere, or is another one; or which are too many.
func (d *dice) mangledWhen(list []impl.Part) []impl.Part {
	out := append([]impl.Part{}, list...)
	k := d.below(len(out))
	other := d.below(len(out))
	switch d.below(10) {
	case 0:
		return append(out[:k], out[k+1:]...)
	case 1:
		return append(out[:k+1], list[k:]...)
	case 2:
		out[k], out[other] = out[other], out[k]
	case 3:
		out[k].Kind = d.oneOf(append(fieldsNear(), 10, 11, 12))
	case 4:
		out[k].A = d.oneOf(append(fieldsNear(), k-1, k, k+1))
	case 5:
		out[k].B = d.oneOf(append(fieldsNear(), k-1, k, k+1))
	case 6:
		return append(out, make([]impl.Part, d.oneOf([]int{1, 20, 1000}))...)
	case 7:
		return append(out, make([]impl.Part, 20-len(out))...)
	}
	return out
}

// anyNumbers returns a row of numbers that is mostly none of a machine.
func (d *dice) anyNumbers() []int {
	out := []int{}
	numbers := append(fieldsNear(), d.words(20)...)
	for i := d.oneOf([]int{0, 1, 2, 4, 6, 8, 9, 999, 1000}); i > 0; i-- {
		out = append(out, d.oneOf(numbers))
	}
	return out
}

// anyMachine returns what is mostly no machine of any program.
func (d *dice) anyMachine() impl.Machine {
	m := impl.Machine{Cells: d.anyNumbers(), Locks: d.anyNumbers(), Told: d.anyNumbers()}
	for k := d.oneOf([]int{0, 1, 2, 4, 5, 20}); k > 0; k-- {
		m.Threads = append(m.Threads, impl.Thread{At: d.oneOf(fieldsNear()), Regs: d.anyNumbers(), Stack: d.anyNumbers(), State: d.oneOf(fieldsNear())})
	}
	return m
}
