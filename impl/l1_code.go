package impl

// Instructions.
const (
	OpHalt  = 0
	OpSet   = 1
	OpMove  = 2
	OpAdd   = 3
	OpSub   = 4
	OpMul   = 5
	OpLess  = 6
	OpLoad  = 7
	OpStore = 8
	OpJump  = 9
	OpZero  = 10
	OpCall  = 11
	OpRet   = 12
	OpAsk   = 13
	OpTell  = 14
	OpLock  = 15
	OpFree  = 16
	OpBegin = 17
)

// CodeTop is the greatest number of instructions of a program.
const CodeTop = 60

// RegMany is how many registers a thread has.
const RegMany = 4

// CellMany is how many cells of memory there are.
const CellMany = 8

// LockMany is how many locks there are.
const LockMany = 2

// WordMod is what all numbers of registers and cells are below.
const WordMod = 10000

// Code is an instruction: what it does, two registers, and a number, a place of the program, or a lock.
type Code struct {
	Op int
	A  int
	B  int
	C  int
}

// Program is a row of instructions, and the place at which signals are handled, -1 if they are not.
type Program struct {
	Rows    []Code
	Handler int
}

// CodeOk reports whether an instruction is one: A is a register (0 to less than RegMany) for OpSet, OpMove, OpAdd, OpSub, OpMul, OpLess, OpLoad, OpStore, OpZero, OpAsk and OpTell; B one for OpMove, OpAdd, OpSub, OpMul, OpLess, OpLoad and OpStore; C is a number (0 to less than WordMod) for OpSet, a cell (0 to less than CellMany) for OpLoad and OpStore, a place (0 to less than CodeTop) for OpJump, OpZero, OpCall and OpBegin, and a lock (0 to less than LockMany) for OpLock and OpFree; all else is 0.
func CodeOk(c Code) bool {
	f := formOf(c.Op)
	if f.name == "" {
		return false
	}
	return fieldOk(c.A, f.a) && fieldOk(c.B, f.b) && fieldOk(c.C, f.c)
}

// ProgramOk reports whether a program is one: 1 to CodeTop instructions (CodeOk), whose places are less than how many there are, and a handler that is such a place, or -1.
func ProgramOk(p Program) bool {
	many := len(p.Rows)
	if many < 1 || many > CodeTop {
		return false
	}
	if p.Handler < -1 || p.Handler >= many {
		return false
	}
	for _, c := range p.Rows {
		if !CodeOk(c) {
			return false
		}
		if formOf(c.Op).c == isPlace && c.C >= many {
			return false
		}
	}
	return true
}

// GoesTo returns the places at which a thread of a program (ProgramOk) may go on behind an instruction at a place, ascending, each once: the next one for all but OpHalt, OpJump, OpCall and OpRet, which may be behind the end, and C for OpJump, OpZero and OpCall; nil for OpHalt and OpRet, and for others.
func GoesTo(p Program, at int) []int {
	if !ProgramOk(p) || at < 0 || at >= len(p.Rows) {
		return nil
	}
	c := p.Rows[at]
	next := goesNext(c.Op)
	away := goesAway(c.Op)
	if next && away {
		return bothPlaces(c.C, at+1)
	}
	if next {
		return []int{at + 1}
	}
	if away {
		return []int{c.C}
	}
	return nil
}

// CodeText returns the text of an instruction (CodeOk): its name (halt, set, move, add, sub, mul, less, load, store, jump, zero, call, ret, ask, tell, lock, free or begin), and behind it what it uses of A, B and C, each in decimal with a space ahead; "" for others.
func CodeText(c Code) string {
	if !CodeOk(c) {
		return ""
	}
	f := formOf(c.Op)
	return f.name + fieldText(c.A, f.a) + fieldText(c.B, f.b) + fieldText(c.C, f.c)
}

// ReadCode returns the instruction whose text (CodeText) a text is, and true; the zero value and false if there is none.
func ReadCode(s string) (Code, bool) {
	if len(s) > codeTextTop {
		return Code{}, false
	}
	words := wordsOf(s)
	op := opNamed(words[0])
	f := formOf(op)
	atB := 1 + wordsFor(f.a)
	atC := atB + wordsFor(f.b)
	c := Code{
		Op: op,
		A:  fieldAt(words, 1, f.a),
		B:  fieldAt(words, atB, f.b),
		C:  fieldAt(words, atC, f.c),
	}
	// Writing it again refuses words too many and leading zeros, so that no other text is read as it.
	if !CodeOk(c) || CodeText(c) != s {
		return Code{}, false
	}
	return c, true
}

// What a field of an instruction may be.
const (
	isUnused   = 0
	isRegister = 1
	isNumber   = 2
	isCell     = 3
	isPlace    = 4
	isLock     = 5
)

// codeTextTop is the length of the longest texts of instructions, such as "store 3 3 7"; longer ones are refused before they are cut into words.
const codeTextTop = 11

// digitsTop is how many digits the numbers below WordMod have at most.
const digitsTop = 4

// form is what an instruction is called, and what its fields A, B and C are.
type form struct {
	name string
	a    int
	b    int
	c    int
}

// formOf is the table of what each instruction uses; its row has no name if there is no such instruction.
func formOf(op int) form {
	switch op {
	case OpHalt:
		return form{name: "halt"}
	case OpSet:
		return form{name: "set", a: isRegister, c: isNumber}
	case OpMove:
		return form{name: "move", a: isRegister, b: isRegister}
	case OpAdd:
		return form{name: "add", a: isRegister, b: isRegister}
	case OpSub:
		return form{name: "sub", a: isRegister, b: isRegister}
	case OpMul:
		return form{name: "mul", a: isRegister, b: isRegister}
	case OpLess:
		return form{name: "less", a: isRegister, b: isRegister}
	case OpLoad:
		return form{name: "load", a: isRegister, b: isRegister, c: isCell}
	case OpStore:
		return form{name: "store", a: isRegister, b: isRegister, c: isCell}
	case OpJump:
		return form{name: "jump", c: isPlace}
	case OpZero:
		return form{name: "zero", a: isRegister, c: isPlace}
	case OpCall:
		return form{name: "call", c: isPlace}
	case OpRet:
		return form{name: "ret"}
	case OpAsk:
		return form{name: "ask", a: isRegister}
	case OpTell:
		return form{name: "tell", a: isRegister}
	case OpLock:
		return form{name: "lock", c: isLock}
	case OpFree:
		return form{name: "free", c: isLock}
	case OpBegin:
		return form{name: "begin", c: isPlace}
	}
	return form{}
}

// fieldTop returns what a field of a kind is below; what is not used is below 1, and so is 0.
func fieldTop(kind int) int {
	switch kind {
	case isRegister:
		return RegMany
	case isNumber:
		return WordMod
	case isCell:
		return CellMany
	case isPlace:
		return CodeTop
	case isLock:
		return LockMany
	}
	return 1
}

// fieldOk reports whether a number may be a field of a kind.
func fieldOk(n int, kind int) bool {
	return n >= 0 && n < fieldTop(kind)
}

// goesNext reports whether a thread may go on at the next place behind an instruction.
func goesNext(op int) bool {
	return op != OpHalt && op != OpJump && op != OpCall && op != OpRet
}

// goesAway reports whether a thread may go on at C of an instruction.
func goesAway(op int) bool {
	return op == OpJump || op == OpZero || op == OpCall
}

// bothPlaces returns two places, ascending, once if they are the same.
func bothPlaces(a int, b int) []int {
	if a == b {
		return []int{a}
	}
	if a < b {
		return []int{a, b}
	}
	return []int{b, a}
}

// fieldText returns a field of a kind with a space ahead; "" if it is not used.
func fieldText(n int, kind int) string {
	if kind == isUnused {
		return ""
	}
	return " " + decimalText(n)
}

// decimalText returns a number from 0 on in decimal.
func decimalText(n int) string {
	if n < 10 {
		return string([]byte{byte('0' + n)})
	}
	return decimalText(n/10) + decimalText(n%10)
}

// opNamed returns the instruction with a name; -1 if there is none.
func opNamed(name string) int {
	for op := OpHalt; op <= OpBegin; op++ {
		if formOf(op).name == name {
			return op
		}
	}
	return -1
}

// wordsOf returns what is between the spaces of a text, one word at least.
func wordsOf(s string) []string {
	words := []string{}
	from := 0
	for i := 0; i < len(s); i++ {
		if s[i] == ' ' {
			words = append(words, s[from:i])
			from = i + 1
		}
	}
	return append(words, s[from:])
}

// wordsFor returns how many words tell a field of a kind.
func wordsFor(kind int) int {
	if kind == isUnused {
		return 0
	}
	return 1
}

// fieldAt returns the field of a kind that the word with an index tells: 0 if it is not used, -1 if there is no number.
func fieldAt(words []string, at int, kind int) int {
	if kind == isUnused {
		return 0
	}
	if at >= len(words) {
		return -1
	}
	return numberIn(words[at])
}

// numberIn returns the number that a word of 1 to digitsTop digits tells; -1 for others.
func numberIn(word string) int {
	if len(word) < 1 || len(word) > digitsTop {
		return -1
	}
	n := 0
	for i := 0; i < len(word); i++ {
		if word[i] < '0' || word[i] > '9' {
			return -1
		}
		n = n*10 + int(word[i]-'0')
	}
	return n
}
