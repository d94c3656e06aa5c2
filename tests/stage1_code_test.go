package tests

import (
	"math"
	"strconv"
	"strings"
	"testing"

	"loop.example/backintime/impl"
)

// uses is a row of a table of this test's own, so that the one of the program is not checked by itself:
// which of A and B are registers, and what C is below (0 if it is not used).
type uses struct {
	name  string
	a     bool
	b     bool
	cTop  int
	place bool
	next  bool
	away  bool
}

func usesByOp() []uses {
	return []uses{
		impl.OpHalt:  {name: "halt"},
		impl.OpSet:   {name: "set", a: true, cTop: 10000, next: true},
		impl.OpMove:  {name: "move", a: true, b: true, next: true},
		impl.OpAdd:   {name: "add", a: true, b: true, next: true},
		impl.OpSub:   {name: "sub", a: true, b: true, next: true},
		impl.OpMul:   {name: "mul", a: true, b: true, next: true},
		impl.OpLess:  {name: "less", a: true, b: true, next: true},
		impl.OpLoad:  {name: "load", a: true, b: true, cTop: 8, next: true},
		impl.OpStore: {name: "store", a: true, b: true, cTop: 8, next: true},
		impl.OpJump:  {name: "jump", cTop: 60, place: true, away: true},
		impl.OpZero:  {name: "zero", a: true, cTop: 60, place: true, next: true, away: true},
		impl.OpCall:  {name: "call", cTop: 60, place: true, away: true},
		impl.OpRet:   {name: "ret"},
		impl.OpAsk:   {name: "ask", a: true, next: true},
		impl.OpTell:  {name: "tell", a: true, next: true},
		impl.OpLock:  {name: "lock", cTop: 2, next: true},
		impl.OpFree:  {name: "free", cTop: 2, next: true},
		impl.OpBegin: {name: "begin", cTop: 60, place: true, next: true},
	}
}

func fieldExpected(n int, top int) bool {
	if top == 0 {
		return n == 0
	}
	return n >= 0 && n < top
}

func regTop(used bool) int {
	if used {
		return 4
	}
	return 0
}

func codeExpected(c impl.Code) bool {
	table := usesByOp()
	if c.Op < 0 || c.Op >= len(table) {
		return false
	}
	u := table[c.Op]
	return fieldExpected(c.A, regTop(u.a)) && fieldExpected(c.B, regTop(u.b)) && fieldExpected(c.C, u.cTop)
}

func textExpected(c impl.Code) string {
	u := usesByOp()[c.Op]
	s := u.name
	if u.a {
		s += " " + strconv.Itoa(c.A)
	}
	if u.b {
		s += " " + strconv.Itoa(c.B)
	}
	if u.cTop > 0 {
		s += " " + strconv.Itoa(c.C)
	}
	return s
}

// allCodes returns every instruction that there is.
func allCodes() []impl.Code {
	out := []impl.Code{}
	for op, u := range usesByOp() {
		for a := 0; a < max(regTop(u.a), 1); a++ {
			for b := 0; b < max(regTop(u.b), 1); b++ {
				for c := 0; c < max(u.cTop, 1); c++ {
					out = append(out, impl.Code{Op: op, A: a, B: b, C: c})
				}
			}
		}
	}
	return out
}

func allTexts() map[string]impl.Code {
	out := map[string]impl.Code{}
	for _, c := range allCodes() {
		out[textExpected(c)] = c
	}
	return out
}

// someCodes returns each instruction whose C, if it is a number, is near an edge.
func someCodes() []impl.Code {
	out := []impl.Code{}
	for _, c := range allCodes() {
		if c.Op != impl.OpSet || c.C < 12 || c.C >= 98 && c.C < 102 || c.C > 9997 {
			out = append(out, c)
		}
	}
	return out
}

// fieldsNear returns numbers within, at and past the edges of whatever a field may be.
func fieldsNear() []int {
	return []int{math.MinInt, -10000, -2, -1, 0, 1, 2, 3, 4, 5, 7, 8, 59, 60, 61, 9999, 10000, math.MaxInt}
}

func sameInts(a []int, b []int) bool {
	if len(a) != len(b) {
		return false
	}
	for i := range a {
		if a[i] != b[i] {
			return false
		}
	}
	return true
}

// readAsExpected fails if a text is not read as the table of this test tells.
func readAsExpected(t *testing.T, texts map[string]impl.Code, s string) {
	t.Helper()
	want, there := texts[s]
	c, ok := impl.ReadCode(s)
	if ok != there || c != want {
		t.Fatalf("ReadCode(%q) = %v, %v, want %v, %v", s, c, ok, want, there)
	}
}

func TestConstantsOfStage1(t *testing.T) {
	got := []int{
		impl.OpHalt, impl.OpSet, impl.OpMove, impl.OpAdd, impl.OpSub, impl.OpMul, impl.OpLess, impl.OpLoad, impl.OpStore,
		impl.OpJump, impl.OpZero, impl.OpCall, impl.OpRet, impl.OpAsk, impl.OpTell, impl.OpLock, impl.OpFree, impl.OpBegin,
	}
	for i, n := range got {
		if n != i {
			t.Fatalf("instruction %d is %d", i, n)
		}
	}
	tops := []int{impl.CodeTop, impl.RegMany, impl.CellMany, impl.LockMany, impl.WordMod}
	if !sameInts(tops, []int{60, 4, 8, 2, 10000}) {
		t.Fatal(tops)
	}
}

func TestP1EachTextIsReadAsItsInstruction(t *testing.T) {
	seen := map[string]bool{}
	for _, c := range allCodes() {
		s := impl.CodeText(c)
		if s != textExpected(c) {
			t.Fatalf("CodeText(%v) = %q", c, s)
		}
		if seen[s] {
			t.Fatalf("%q is the text of two instructions", s)
		}
		seen[s] = true
		if back, ok := impl.ReadCode(s); !ok || back != c {
			t.Fatalf("ReadCode(%q) = %v, %v", s, back, ok)
		}
	}
}

func TestP1TextsByHand(t *testing.T) {
	rows := []struct {
		c impl.Code
		s string
	}{
		{impl.Code{}, "halt"},
		{impl.Code{Op: impl.OpSet, A: 3, C: 9999}, "set 3 9999"},
		{impl.Code{Op: impl.OpSet}, "set 0 0"},
		{impl.Code{Op: impl.OpMove, A: 1, B: 2}, "move 1 2"},
		{impl.Code{Op: impl.OpAdd, A: 3, B: 3}, "add 3 3"},
		{impl.Code{Op: impl.OpSub, B: 1}, "sub 0 1"},
		{impl.Code{Op: impl.OpMul, A: 2}, "mul 2 0"},
		{impl.Code{Op: impl.OpLess, A: 2, B: 1}, "less 2 1"},
		{impl.Code{Op: impl.OpLoad, A: 1, B: 2, C: 3}, "load 1 2 3"},
		{impl.Code{Op: impl.OpStore, A: 3, B: 3, C: 7}, "store 3 3 7"},
		{impl.Code{Op: impl.OpJump, C: 59}, "jump 59"},
		{impl.Code{Op: impl.OpZero, A: 1, C: 10}, "zero 1 10"},
		{impl.Code{Op: impl.OpCall, C: 1}, "call 1"},
		{impl.Code{Op: impl.OpRet}, "ret"},
		{impl.Code{Op: impl.OpAsk, A: 2}, "ask 2"},
		{impl.Code{Op: impl.OpTell}, "tell 0"},
		{impl.Code{Op: impl.OpLock, C: 1}, "lock 1"},
		{impl.Code{Op: impl.OpFree}, "free 0"},
		{impl.Code{Op: impl.OpBegin, C: 30}, "begin 30"},
	}
	for _, row := range rows {
		if s := impl.CodeText(row.c); s != row.s {
			t.Errorf("CodeText(%v) = %q, want %q", row.c, s, row.s)
		}
		if c, ok := impl.ReadCode(row.s); !ok || c != row.c {
			t.Errorf("ReadCode(%q) = %v, %v", row.s, c, ok)
		}
	}
}

func TestP1NoTextOfOthers(t *testing.T) {
	others := []impl.Code{
		{Op: -1}, {Op: 18}, {Op: math.MinInt}, {Op: math.MaxInt},
		{Op: impl.OpSet, A: 4}, {Op: impl.OpSet, C: 10000}, {Op: impl.OpSet, C: -1}, {C: 1},
		{Op: impl.OpTell, A: math.MaxInt}, {Op: impl.OpLoad, B: math.MinInt},
	}
	for _, c := range others {
		if s := impl.CodeText(c); s != "" {
			t.Errorf("CodeText(%v) = %q", c, s)
		}
	}
}

func TestP156OtherTextsAreRefused(t *testing.T) {
	others := []string{
		"", " ", "  ", "\x00", "\n", "none", "hal", "haltt", "Halt", "HALT", "halt ", " halt", "halt\n", "halt 0", "ret 0",
		"set", "set ", "set 1", "set 1 ", "set 1 2 3", "set  1 2", "set 1  2", "set 1 2 ", "set 1\t2", "set 1,2",
		"set 01 2", "set 1 02", "set 1 00", "set 1 +2", "set 1 -2", "set 1 -0", "set 1 0x1", "set 1 1e2", "set 1 2.", "set 1 ٣",
		"set 4 0", "set 0 10000", "set 0 99999", "set 0 18446744073709551616", "set 0 -1", "set -1 0",
		"move 1", "move 1 2 0", "move 0 4", "load 1 2", "load 1 2 8", "load 4 0 0", "load 0 4 0", "store 3 3 7 0",
		"jump", "jump 60", "jump 0 0", "zero 1", "zero 4 0", "zero 0 60", "zero 0 0 0", "call 60", "begin 60", "begin",
		"ask", "ask 4", "ask 0 0", "tell 4", "tell", "lock 2", "lock", "free 2", "free 0 0", "1 set 2", "0", "-1", "17",
		"store 3 3 77", "set 3 9999 ", "halt\x00", "set 1 2\xff", "\xfflock 1", "lock 1\r",
	}
	for _, s := range others {
		if c, ok := impl.ReadCode(s); ok || c != (impl.Code{}) {
			t.Errorf("ReadCode(%q) = %v, %v", s, c, ok)
		}
	}
}

func TestP156LongTextsAreRefused(t *testing.T) {
	long := []string{
		strings.Repeat(" ", 1000), strings.Repeat("9", 1000), strings.Repeat("halt ", 200), strings.Repeat("halt", 200000),
		"set 1 " + strings.Repeat("0", 1000), "set 1 " + strings.Repeat("0", 999) + "2", "halt" + strings.Repeat(" ", 1<<20),
	}
	for _, s := range long {
		if c, ok := impl.ReadCode(s); ok || c != (impl.Code{}) {
			t.Errorf("a text of %d bytes is read as %v, %v", len(s), c, ok)
		}
	}
}

func TestP156TextsWithOneByteChanged(t *testing.T) {
	texts := allTexts()
	for _, c := range someCodes() {
		s := textExpected(c)
		for i := 0; i <= len(s); i++ {
			for _, b := range []byte(" 019-+ahrst\x00\xff") {
				readAsExpected(t, texts, s[:i]+string([]byte{b})+s[i:])
				if i < len(s) {
					readAsExpected(t, texts, s[:i]+string([]byte{b})+s[i+1:])
				}
			}
			readAsExpected(t, texts, s[:i])
			readAsExpected(t, texts, s[i:])
			if i < len(s) {
				readAsExpected(t, texts, s[:i]+s[i+1:])
			}
		}
	}
}

func TestP156TextsWithAnyByte(t *testing.T) {
	texts := allTexts()
	for op, u := range usesByOp() {
		c := impl.Code{Op: op, A: max(regTop(u.a)-1, 0), B: max(regTop(u.b)-1, 0), C: max(u.cTop-1, 0)}
		s := textExpected(c)
		for i := 0; i <= len(s); i++ {
			for b := 0; b < 256; b++ {
				readAsExpected(t, texts, s[:i]+string([]byte{byte(b)})+s[i:])
				if i < len(s) {
					readAsExpected(t, texts, s[:i]+string([]byte{byte(b)})+s[i+1:])
				}
			}
		}
	}
}

func TestP156WordsJoinedAnyWay(t *testing.T) {
	texts := allTexts()
	words := []string{"", "0", "1", "3", "4", "7", "8", "59", "60", "9999", "10000", "00", "-1", "x"}
	for _, u := range usesByOp() {
		readAsExpected(t, texts, u.name)
		for _, a := range words {
			readAsExpected(t, texts, u.name+" "+a)
			for _, b := range words {
				readAsExpected(t, texts, u.name+" "+a+" "+b)
				for _, c := range words {
					readAsExpected(t, texts, u.name+" "+a+" "+b+" "+c)
				}
			}
		}
	}
}

func TestP60WhatIsReadIsWrittenSoAgain(t *testing.T) {
	names := []string{}
	for _, u := range usesByOp() {
		names = append(names, u.name)
	}
	pieces := append(names, " ", "0", "1", "2", "9", "59", "  ", "-")
	seed := 1
	read := 0
	for i := 0; i < 400000; i++ {
		s := ""
		for k := 0; k < 6; k++ {
			seed = seed * 16807 % 2147483647
			s += pieces[seed%len(pieces)]
			c, ok := impl.ReadCode(s)
			if !ok {
				continue
			}
			read++
			if !impl.CodeOk(c) || impl.CodeText(c) != s {
				t.Fatalf("%q is read as %v, whose text is %q", s, c, impl.CodeText(c))
			}
		}
	}
	if read < 1000 {
		t.Fatalf("only %d texts were read", read)
	}
	for s := range allTexts() {
		if c, ok := impl.ReadCode(s); !ok || impl.CodeText(c) != s {
			t.Fatalf("%q is read as %v, %v", s, c, ok)
		}
	}
}

func TestP57WhatIsNotUsedIsZero(t *testing.T) {
	for op, u := range usesByOp() {
		if !impl.CodeOk(impl.Code{Op: op}) {
			t.Fatalf("%s with all 0 is none", u.name)
		}
		for _, n := range fieldsNear() {
			if n == 0 {
				continue
			}
			if !u.a && impl.CodeOk(impl.Code{Op: op, A: n}) {
				t.Errorf("%s does not use A, and has %d there", u.name, n)
			}
			if !u.b && impl.CodeOk(impl.Code{Op: op, B: n}) {
				t.Errorf("%s does not use B, and has %d there", u.name, n)
			}
			if u.cTop == 0 && impl.CodeOk(impl.Code{Op: op, C: n}) {
				t.Errorf("%s does not use C, and has %d there", u.name, n)
			}
		}
	}
}

func TestP57FieldsAreWithinTheirEdges(t *testing.T) {
	ops := []int{math.MinInt, -1, 18, 19, math.MaxInt}
	for op := range usesByOp() {
		ops = append(ops, op)
	}
	for _, op := range ops {
		for _, a := range fieldsNear() {
			for _, b := range fieldsNear() {
				for _, n := range fieldsNear() {
					c := impl.Code{Op: op, A: a, B: b, C: n}
					if impl.CodeOk(c) != codeExpected(c) {
						t.Fatalf("CodeOk(%v) = %v", c, impl.CodeOk(c))
					}
					if (impl.CodeText(c) != "") != codeExpected(c) {
						t.Fatalf("CodeText(%v) = %q", c, impl.CodeText(c))
					}
				}
			}
		}
	}
}

// rowsOf returns so many instructions that are done with.
func rowsOf(many int) []impl.Code {
	return make([]impl.Code, many)
}

func somePrograms() []impl.Program {
	out := []impl.Program{
		{Rows: rowsOf(1), Handler: -1},
		{Rows: rowsOf(1), Handler: 0},
		{Rows: rowsOf(59), Handler: 58},
		{Rows: rowsOf(60), Handler: 59},
		{Rows: rowsOf(60), Handler: -1},
	}
	for _, c := range someCodes() {
		rows := rowsOf(c.C%60 + 1)
		rows[c.C%60/2] = c
		if usesByOp()[c.Op].place {
			rows[0] = c
		}
		out = append(out, impl.Program{Rows: rows, Handler: c.A - 1})
	}
	return out
}

func TestP58HandlerLeftOutAndEndPutBehind(t *testing.T) {
	ok := 0
	for _, p := range somePrograms() {
		if !impl.ProgramOk(p) {
			continue
		}
		ok++
		if !impl.ProgramOk(impl.Program{Rows: p.Rows, Handler: -1}) {
			t.Fatalf("%v is none with its handler left out", p)
		}
		more := append(append([]impl.Code{}, p.Rows...), impl.Code{Op: impl.OpHalt})
		longer := impl.Program{Rows: more, Handler: p.Handler}
		if impl.ProgramOk(longer) != (len(more) <= 60) {
			t.Fatalf("%v with an end put behind: %v", p, impl.ProgramOk(longer))
		}
	}
	if ok < 500 {
		t.Fatalf("only %d programs were looked at", ok)
	}
}

func TestP58HowManyInstructions(t *testing.T) {
	for many := 0; many <= 200; many++ {
		p := impl.Program{Rows: rowsOf(many), Handler: -1}
		if impl.ProgramOk(p) != (many >= 1 && many <= 60) {
			t.Errorf("%d instructions: %v", many, impl.ProgramOk(p))
		}
	}
	if impl.ProgramOk(impl.Program{}) || impl.ProgramOk(impl.Program{Handler: -1}) {
		t.Error("a program of nothing is one")
	}
}

func TestP58HandlerIsAPlaceOrNone(t *testing.T) {
	for many := 1; many <= 60; many++ {
		for _, handler := range []int{math.MinInt, -3, -2, -1, 0, many / 2, many - 1, many, many + 1, 60, 61, math.MaxInt} {
			p := impl.Program{Rows: rowsOf(many), Handler: handler}
			if impl.ProgramOk(p) != (handler >= -1 && handler < many) {
				t.Errorf("%d instructions with the handler %d: %v", many, handler, impl.ProgramOk(p))
			}
		}
	}
}

func TestP58PlacesAreThere(t *testing.T) {
	for _, op := range []int{impl.OpJump, impl.OpZero, impl.OpCall, impl.OpBegin} {
		for many := 1; many <= 60; many++ {
			for c := -1; c <= 61; c++ {
				for _, at := range []int{0, many - 1} {
					rows := rowsOf(many)
					rows[at] = impl.Code{Op: op, C: c}
					p := impl.Program{Rows: rows, Handler: -1}
					if impl.ProgramOk(p) != (c >= 0 && c < many) {
						t.Fatalf("%d instructions with a place %d: %v", many, c, impl.ProgramOk(p))
					}
				}
			}
		}
	}
}

func TestP58NumbersCellsAndLocksAreNoPlaces(t *testing.T) {
	for _, c := range []impl.Code{
		{Op: impl.OpSet, C: 9999}, {Op: impl.OpLoad, C: 7}, {Op: impl.OpStore, C: 7}, {Op: impl.OpLock, C: 1}, {Op: impl.OpFree, C: 1},
	} {
		if !impl.ProgramOk(impl.Program{Rows: []impl.Code{c}, Handler: -1}) {
			t.Errorf("a program of %v alone is none", c)
		}
	}
}

func TestP58EachInstructionIsOne(t *testing.T) {
	bad := []impl.Code{{Op: -1}, {Op: 18}, {A: 1}, {Op: impl.OpSet, A: 4}, {Op: impl.OpSet, C: 10000}, {Op: impl.OpJump, A: 1}, {Op: impl.OpRet, C: 1}}
	for _, c := range bad {
		for at := 0; at < 60; at++ {
			rows := rowsOf(60)
			rows[at] = c
			if impl.ProgramOk(impl.Program{Rows: rows, Handler: -1}) {
				t.Fatalf("a program with %v at %d is one", c, at)
			}
		}
	}
}

func goesExpected(c impl.Code, at int) []int {
	u := usesByOp()[c.Op]
	out := []int{}
	for place := 0; place <= 60; place++ {
		if u.next && place == at+1 || u.away && place == c.C {
			out = append(out, place)
		}
	}
	return out
}

func TestP59WhereAThreadGoesOn(t *testing.T) {
	for _, many := range []int{1, 2, 3, 7, 60} {
		for _, c := range someCodes() {
			if usesByOp()[c.Op].place && c.C >= many {
				continue
			}
			for at := 0; at < many; at++ {
				rows := rowsOf(many)
				rows[at] = c
				out := impl.GoesTo(impl.Program{Rows: rows, Handler: -1}, at)
				if !sameInts(out, goesExpected(c, at)) {
					t.Fatalf("%v at %d of %d goes to %v", c, at, many, out)
				}
				ends := c.Op == impl.OpHalt || c.Op == impl.OpRet
				if ends && len(out) != 0 || !ends && (len(out) < 1 || len(out) > 2) {
					t.Fatalf("%v goes on at %d places", c, len(out))
				}
				if len(out) == 2 && out[0] != at+1 && out[1] != at+1 {
					t.Fatalf("%v at %d goes to %v, neither of which is the next one", c, at, out)
				}
			}
		}
	}
}

func TestP59PlacesByHand(t *testing.T) {
	rows := []impl.Code{
		{Op: impl.OpZero, C: 1},
		{Op: impl.OpZero, C: 1},
		{Op: impl.OpZero, C: 0},
		{Op: impl.OpZero, C: 6},
		{Op: impl.OpCall, C: 5},
		{Op: impl.OpBegin, C: 0},
		{Op: impl.OpJump, C: 6},
		{Op: impl.OpRet},
		{Op: impl.OpHalt},
		{Op: impl.OpZero, C: 9},
	}
	want := [][]int{{1}, {1, 2}, {0, 3}, {4, 6}, {5}, {6}, {6}, {}, {}, {9, 10}}
	p := impl.Program{Rows: rows, Handler: 3}
	for at := range rows {
		if out := impl.GoesTo(p, at); !sameInts(out, want[at]) {
			t.Errorf("%v at %d goes to %v, want %v", rows[at], at, out, want[at])
		}
	}
}

func TestP59NowhereForOthers(t *testing.T) {
	jumps := []impl.Code{{Op: impl.OpJump, C: 1}, {Op: impl.OpSet}}
	p := impl.Program{Rows: jumps, Handler: -1}
	for _, at := range []int{math.MinInt, -1, 2, 3, 60, math.MaxInt} {
		if out := impl.GoesTo(p, at); len(out) != 0 {
			t.Errorf("at %d it goes to %v", at, out)
		}
	}
	bad := []impl.Program{
		{},
		{Handler: -1},
		{Rows: jumps, Handler: 2},
		{Rows: jumps, Handler: -2},
		{Rows: []impl.Code{{Op: impl.OpSet}, {Op: impl.OpJump, C: 2}}, Handler: -1},
		{Rows: []impl.Code{{Op: impl.OpSet}, {Op: 18}}, Handler: -1},
		{Rows: append(rowsOf(60), impl.Code{}), Handler: -1},
	}
	bad[6].Rows[0] = impl.Code{Op: impl.OpSet}
	for i, q := range bad {
		if out := impl.GoesTo(q, 0); len(out) != 0 {
			t.Errorf("program %d goes to %v", i, out)
		}
	}
}

func TestResultsOfStage1AreNew(t *testing.T) {
	rows := []impl.Code{{Op: impl.OpZero, C: 0}, {Op: impl.OpCall, C: 0}, {}}
	p := impl.Program{Rows: rows, Handler: 1}
	first := impl.GoesTo(p, 0)
	second := impl.GoesTo(p, 0)
	first[0] = 77
	if !sameInts(second, []int{0, 1}) || !sameInts(impl.GoesTo(p, 0), []int{0, 1}) {
		t.Fatal("results share memory")
	}
	impl.ProgramOk(p)
	want := []impl.Code{{Op: impl.OpZero, C: 0}, {Op: impl.OpCall, C: 0}, {}}
	for i := range want {
		if rows[i] != want[i] {
			t.Fatalf("row %d was written to: %v", i, rows[i])
		}
	}
}
