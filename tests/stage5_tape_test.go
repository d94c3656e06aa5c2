package tests

import (
	"fmt"
	"math"
	"slices"
	"strings"
	"testing"

	"loop.example/backintime/impl"
)

// numAsExpected fails if a number in bytes is not taken as this test's own one is, or promise 77 is broken for it; it returns whether there is one.
func numAsExpected(t *testing.T, s string, at int) bool {
	t.Helper()
	want, behind, there := numExpected(s, at)
	n, next, ok := impl.TakeNum(s, at)
	if n != want || next != behind || ok != there {
		t.Fatalf("TakeNum(%q, %d) = %d, %d, %v, want %d, %d, %v", s, at, n, next, ok, want, behind, there)
	}
	if ok && impl.PutNum(n) != s[at:next] {
		t.Fatalf("%d is taken from %q at %d, and written %q", n, s, at, impl.PutNum(n))
	}
	return ok
}

func TestP76NumbersByHand(t *testing.T) {
	rows := []struct {
		n int
		s string
	}{
		{0, "\x00"}, {1, "\x01"}, {42, "\x2a"}, {126, "\x7e"}, {127, "\x7f"},
		{128, "\x80\x01"}, {129, "\x81\x01"}, {255, "\xff\x01"}, {256, "\x80\x02"}, {300, "\xac\x02"}, {9999, "\x8f\x4e"}, {16383, "\xff\x7f"},
		{16384, "\x80\x80\x01"}, {2097151, "\xff\xff\x7f"}, {2097152, "\x80\x80\x80\x01"},
		{1<<31 - 1, "\xff\xff\xff\xff\x07"}, {1 << 56, "\x80\x80\x80\x80\x80\x80\x80\x80\x01"}, {math.MaxInt, "\xff\xff\xff\xff\xff\xff\xff\xff\x7f"},
	}
	for _, row := range rows {
		if got := impl.PutNum(row.n); got != row.s {
			t.Errorf("%d is written %q, want %q", row.n, got, row.s)
		}
		for _, behind := range []string{"", "\x00", "\x80", "\xff\x7f"} {
			if n, next, ok := impl.TakeNum(row.s+behind, 0); n != row.n || next != len(row.s) || !ok {
				t.Errorf("of %q%q is read %d, %d, %v, want %d", row.s, behind, n, next, ok, row.n)
			}
		}
	}
}

func TestP76ANumberThatIsWrittenIsReadBack(t *testing.T) {
	numbers := []int{}
	for n := 0; n < 20000; n++ {
		numbers = append(numbers, n)
	}
	for bit := 14; bit < 63; bit++ {
		for n := 1<<bit - 3; n < 1<<bit+3; n++ {
			numbers = append(numbers, n, 1<<bit|n/3)
		}
	}
	numbers = append(numbers, math.MaxInt-1, math.MaxInt)
	for k, n := range numbers {
		s := impl.PutNum(n)
		if s != numBytes(n) {
			t.Fatalf("%d is written %q, want %q", n, s, numBytes(n))
		}
		ahead := strings.Repeat("\x81", k%3)
		behind := strings.Repeat("\x80", k%5)
		if got, next, ok := impl.TakeNum(ahead+s+behind, len(ahead)); got != n || next != len(ahead+s) || !ok {
			t.Fatalf("%d is written %q, and of %q%q%q read %d, %d, %v", n, s, ahead, s, behind, got, next, ok)
		}
	}
}

func TestP76NoBytesOfNumbersBelowZero(t *testing.T) {
	for n := -1; n > -1000; n-- {
		if s := impl.PutNum(n); s != "" {
			t.Fatalf("%d is written %q", n, s)
		}
	}
	for _, n := range []int{-16384, math.MinInt32, math.MinInt + 1, math.MinInt} {
		if s := impl.PutNum(n); s != "" {
			t.Fatalf("%d is written %q", n, s)
		}
	}
}

func TestP77NumbersThatAreNoneByHand(t *testing.T) {
	rows := []struct {
		what string
		s    string
		at   int
	}{
		{"no bytes", "", 0},
		{"a place below all", "\x01", -1},
		{"a place far below all", "\x01", math.MinInt},
		{"a place behind the last byte", "\x01", 1},
		{"a place past the end", "\x01", 2},
		{"a place far past the end", "\x01", math.MaxInt},
		{"cut behind its first byte", "\x80", 0},
		{"cut behind others", "\x05\xff\xff", 1},
		{"more bytes than 0 needs", "\x80\x00", 0},
		{"many more bytes than 0 needs", "\x80\x80\x80\x80\x00", 0},
		{"more bytes than 1 needs", "\x81\x00", 0},
		{"more bytes than 127 needs", "\xff\x00", 0},
		{"more bytes than 128 needs", "\x80\x81\x00", 0},
		{"more bytes than needed, behind others", "\x01\x87\x00\x01", 1},
		{"9 bytes and more to come", strings.Repeat("\xff", 9), 0},
		{"2 to the 63", strings.Repeat("\x80", 9) + "\x01", 0},
		{"2 to the 64", strings.Repeat("\x80", 9) + "\x02", 0},
		{"10 bytes", strings.Repeat("\xff", 9) + "\x7f", 0},
		{"10 bytes, one more than needed", strings.Repeat("\xff", 9) + "\x00", 0},
		{"11 bytes", strings.Repeat("\x80", 10) + "\x01", 0},
		{"19 bytes, the last ones of which are a number", strings.Repeat("\x81", 18) + "\x01", 0},
		{"1000 bytes", strings.Repeat("\x80", 999) + "\x01", 0},
		{"1000 bytes and more to come", strings.Repeat("\x80", 1000), 0},
	}
	for _, row := range rows {
		if n, next, ok := impl.TakeNum(row.s, row.at); n != 0 || next != 0 || ok {
			t.Errorf("%s: %d, %d, %v", row.what, n, next, ok)
		}
	}
}

// eachText returns all texts of some bytes, the longer ones behind their beginnings.
func eachText(bytes string, long int) []string {
	out := []string{""}
	for k := 0; k < len(out); k++ {
		for i := 0; i < len(bytes) && len(out[k]) < long; i++ {
			out = append(out, out[k]+bytes[i:i+1])
		}
	}
	return out
}

func TestP77WhatIsReadIsWrittenSo(t *testing.T) {
	for a := 0; a < 256; a++ {
		for b := 0; b < 256; b++ {
			numAsExpected(t, string([]byte{byte(a), byte(b)}), 0)
		}
		numAsExpected(t, string([]byte{byte(a)}), 0)
	}
	for _, s := range eachText("\x00\x01\x7f\x80\x81\xff", 5) {
		for k := -1; k <= len(s)+1; k++ {
			numAsExpected(t, s, k)
		}
	}
	d := dice{seed: 61}
	good, bad := 0, 0
	for i := 0; i < 20000; i++ {
		s := []byte(d.bytes(d.oneOf([]int{1, 3, 8, 9, 10, 12})))
		for k := range s {
			if d.below(4) > 0 {
				s[k] |= 128
			}
		}
		if numAsExpected(t, d.bytes(i%3)+string(s), i%3) {
			good++
		} else {
			bad++
		}
	}
	if good < 5000 || bad < 5000 {
		t.Fatalf("%d were numbers, and %d were none", good, bad)
	}
}

// taped is a recording, its tape, and how many choices stand on each beginning of it, by hand.
type taped struct {
	what  string
	p     impl.Program
	r     impl.Record
	tape  string
	stand []int
}

func tapes(t *testing.T) []taped {
	t.Helper()
	talks, _, _ := talker(t)
	asking := program(t, 1, "ask 0", "jump 0")
	jumps := program(t, -1, "jump 0")
	crowd := program(t, 3, "begin 0", "begin 0", "begin 0", "jump 3")
	late := program(t, -1, "set 1 5", "ask 0", "tell 0", "ask 0", "jump 0")
	return []taped{
		{"no choices", asking, recordOf(nil), "", []int{0}},
		{"one step", jumps, recordOf(nil, sliceOf(0, 0, 1)), "\x00\x01", []int{0, 0, 1}},
		{"an answer of 0", asking, recordOf([]int{0}, sliceOf(0, 0, 1)), "\x00\x01\x00", []int{0, 0, 0, 1}},
		{"the greatest answer", asking, recordOf([]int{9999}, sliceOf(0, 0, 1)), "\x00\x01\x8f\x4e", []int{0, 0, 0, 0, 1}},
		{"answers of two bytes and of one", asking, recordOf([]int{300, 7}, sliceOf(0, 0, 3)), "\x00\x03\xac\x02\x07", []int{0, 0, 0, 0, 2, 3}},
		{"answers that are asked for later", late, recordOf([]int{128, 9}, sliceOf(0, 0, 6)), "\x00\x06\x80\x01\x09", []int{0, 0, 1, 1, 3, 6}},
		{"a signal where one asks", asking, recordOf(nil, sliceOf(0, 1, 1)), "\x01\x01", []int{0, 0, 1}},
		{"answers of each slice behind it", asking, recordOf([]int{5, 6}, sliceOf(0, 0, 1), sliceOf(0, 1, 2), sliceOf(0, 0, 2)), "\x00\x01\x05\x01\x02\x00\x02\x06", []int{0, 0, 0, 1, 1, 3, 3, 4, 5}},
		{"each thread", crowd, recordOf(nil, sliceOf(0, 0, 3), sliceOf(3, 1, 1), sliceOf(3, 0, 1), sliceOf(2, 1, 1), sliceOf(1, 1, 2)), "\x00\x03\x07\x01\x06\x01\x05\x01\x03\x02", []int{0, 0, 3, 3, 4, 4, 5, 5, 6, 6, 8}},
		{"127 steps", jumps, recordOf(nil, sliceOf(0, 0, 127)), "\x00\x7f", []int{0, 0, 127}},
		{"128 steps", jumps, recordOf(nil, sliceOf(0, 0, 128)), "\x00\x80\x01", []int{0, 0, 0, 128}},
		{"300 steps", jumps, recordOf(nil, sliceOf(0, 0, 300)), "\x00\xac\x02", []int{0, 0, 0, 300}},
		{"a talk", talks, recordOf([]int{42}, sliceOf(0, 0, 1), sliceOf(1, 0, 1), sliceOf(0, 0, 2), sliceOf(1, 1, 1), sliceOf(0, 0, 1), sliceOf(1, 0, 1), sliceOf(0, 0, 2)), "\x00\x01\x02\x01\x00\x02\x2a\x03\x01\x00\x01\x02\x01\x00\x02", []int{0, 0, 1, 1, 2, 2, 2, 4, 4, 5, 5, 6, 6, 7, 7, 9}},
	}
}

func TestP8EachBeginningByHand(t *testing.T) {
	for _, row := range tapes(t) {
		list, ok := replayExpected(row.p, row.r)
		if !ok || len(row.stand) != len(row.tape)+1 {
			t.Fatalf("%s: %v, %v, %v", row.what, list, ok, row.stand)
		}
		if got := impl.TapeOf(row.p, row.r); got != row.tape {
			t.Errorf("%s: the tape is %q, want %q", row.what, got, row.tape)
		}
		for k, n := range row.stand {
			if got := impl.ReadTape(row.p, row.tape[:k]); !slices.Equal(got, list[:n]) {
				t.Errorf("%s: on %q stands %v, want %v", row.what, row.tape[:k], got, list[:n])
			}
		}
	}
}

// cutAnywhere fails if promise 8 is broken for a recording: looked at are all beginnings of its tape, or of a long one each so many.
func cutAnywhere(t *testing.T, p impl.Program, r impl.Record, each int) {
	t.Helper()
	list, ok := impl.Replay(p, r)
	tape := impl.TapeOf(p, r)
	if !ok || tape != tapeExpected(p, r) {
		t.Fatalf("%v of %v has the run %v, %v, and the tape %q, want %q", r, p, list, ok, tape, tapeExpected(p, r))
	}
	ahead := 0
	for k := 0; k <= len(tape); k++ {
		if len(tape) > each && k%each > 0 && k < len(tape)-3 {
			continue
		}
		got := impl.ReadTape(p, tape[:k])
		if len(got) < ahead || len(got) > len(list) || !slices.Equal(got, list[:len(got)]) {
			t.Fatalf("on %q of %v stands %v, and ahead of its end %d choices, of %v", tape[:k], p, got, ahead, list)
		}
		if want := readExpected(p, tape[:k]); len(got) != len(want) {
			t.Fatalf("on %q of %v stand %d choices, want %d", tape[:k], p, len(got), len(want))
		}
		ahead = len(got)
	}
	if ahead != len(list) {
		t.Fatalf("on %q of %v stand %d choices of %d", tape, p, ahead, len(list))
	}
}

func TestP8EachBeginningIsABeginningOfTheRun(t *testing.T) {
	d := dice{seed: 62}
	asked, signals := 0, 0
	for i := 0; i < 500; i++ {
		p := d.lively()
		n := d.oneOf([]int{0, 1, 2, 3, 20, 40})
		list := d.longRun(p, n)
		if i%2 == 0 {
			list = d.run(p, n)
		}
		r, _ := recordExpected(p, list)
		cutAnywhere(t, p, r, 1000)
		asked += len(r.Answers)
		for _, s := range r.Slices {
			signals += s.Kind
		}
	}
	if asked < 200 || signals < 50 {
		t.Fatalf("only %d answers were on the tapes, and %d slices of signals", asked, signals)
	}
	for i := 0; i < 10; i++ {
		p := d.lively()
		r, _ := recordExpected(p, d.longRun(p, 300))
		cutAnywhere(t, p, r, 37)
	}
}

func TestP8NoTapeOfOthers(t *testing.T) {
	asking := program(t, 1, "ask 0", "jump 0")
	one := sliceOf(0, 0, 1)
	rows := []struct {
		what string
		r    impl.Record
	}{
		{"an answer that is missing", recordOf(nil, one)},
		{"an answer that is left", recordOf([]int{1, 2}, one)},
		{"an answer of no slices", recordOf([]int{1})},
		{"an answer too great", recordOf([]int{10000}, one)},
		{"an answer too small", recordOf([]int{-1}, one)},
		{"a slice of no steps", recordOf(nil, sliceOf(0, 0, 0))},
		{"a slice of fewer than no steps", recordOf(nil, sliceOf(0, 0, math.MinInt))},
		{"slices that could be one", recordOf([]int{1}, one, one)},
		{"a thread that is not there", recordOf(nil, sliceOf(1, 0, 1))},
		{"a thread below all", recordOf(nil, sliceOf(-1, 0, 1))},
		{"a thread past all", recordOf(nil, sliceOf(math.MaxInt, 1, 1))},
		{"no such kind", recordOf(nil, sliceOf(0, 2, 1))},
		{"signals more than the stack takes", recordOf(nil, sliceOf(0, 1, 7))},
		{"301 steps", recordOf(make([]int, 151), sliceOf(0, 0, 301))},
		{"as many steps as it goes", recordOf([]int{1}, sliceOf(0, 0, math.MaxInt))},
		{"many slices", recordOf(nil, make([]impl.Slice, 1000)...)},
		{"many answers", recordOf(make([]int, 1000), one)},
	}
	for _, row := range rows {
		if tape := impl.TapeOf(asking, row.r); tape != "" {
			t.Errorf("%s: %q", row.what, tape)
		}
	}
	for _, p := range brokenPrograms() {
		for _, r := range []impl.Record{{}, recordOf(nil, one), recordOf([]int{1}, one)} {
			if tape := impl.TapeOf(p, r); tape != "" {
				t.Errorf("of %v, which is no program: %q", p, tape)
			}
		}
	}
}

// spoilt is bytes that are no tape, what stands on them all the same, and the tape that tells as much; by hand.
type spoilt struct {
	what   string
	p      impl.Program
	tape   string
	list   []impl.Choice
	mended string
}

func spoiltTapes(t *testing.T) []spoilt {
	t.Helper()
	asking := program(t, 1, "ask 0", "jump 0")
	jumps := program(t, -1, "jump 0")
	twice := program(t, -1, "begin 0", "jump 1")
	signal := impl.Choice{Kind: impl.ChoiceSignal}
	most := numBytes(math.MaxInt)
	return []spoilt{
		{"half a slice", jumps, "\x00", nil, ""},
		{"half a number", jumps, "\x80", nil, ""},
		{"half a slice behind one", jumps, "\x00\x02\x01", steps(0, 0), "\x00\x02"},
		{"half a number behind a slice", jumps, "\x00\x02\x80", steps(0, 0), "\x00\x02"},
		{"a slice without its answer", asking, "\x00\x01", nil, ""},
		{"a slice with half an answer", asking, "\x00\x01\xac", nil, ""},
		{"a slice with one of its answers", asking, "\x00\x03\xac\x02", []impl.Choice{{Reply: 300}, {}}, "\x00\x02\xac\x02"},
		{"a slice with half its last answer", asking, "\x00\x05\x07\x08\x89", []impl.Choice{{Reply: 7}, {}, {Reply: 8}, {}}, "\x00\x04\x07\x08"},
		{"a slice of no steps", jumps, "\x00\x00", nil, ""},
		{"a slice of no steps ahead", jumps, "\x00\x00\x00\x02", steps(0, 0), "\x00\x02"},
		{"a slice of no steps behind", jumps, "\x00\x02\x00\x00", steps(0, 0), "\x00\x02"},
		{"a slice of no steps between", jumps, "\x00\x02\x01\x00\x00\x03", steps(0, 0, 0, 0, 0), "\x00\x05"},
		{"a slice of no steps of a thread that is not there", jumps, "\x09\x00\x00\x02", steps(0, 0), "\x00\x02"},
		{"many slices of no steps", jumps, strings.Repeat("\x00\x00", 400) + "\x00\x02", steps(0, 0), "\x00\x02"},
		{"slices that could be one", jumps, "\x00\x01\x00\x02", steps(0, 0, 0), "\x00\x03"},
		{"slices that could be one, with answers", asking, "\x00\x01\x07\x00\x02\x08", []impl.Choice{{Reply: 7}, {}, {Reply: 8}}, "\x00\x03\x07\x08"},
		{"signals that could be one slice", asking, "\x01\x01\x01\x01\x00\x01", []impl.Choice{signal, signal, {}}, "\x01\x02\x00\x01"},
		{"a thread that is not there", jumps, "\x02\x01\x00\x01", nil, ""},
		{"a thread that is not there, behind others", jumps, "\x00\x02\x02\x01\x00\x01", steps(0, 0), "\x00\x02"},
		{"a thread ahead of its beginning", twice, "\x02\x01\x00\x01", nil, ""},
		{"a thread past all", jumps, "\x00\x01\x08\x01", steps(0), "\x00\x01"},
		{"a thread as great as it goes", jumps, "\x00\x01" + most + "\x01", steps(0), "\x00\x01"},
		{"a signal without a handler", jumps, "\x00\x01\x01\x01\x00\x01", steps(0), "\x00\x01"},
		{"signals more than the stack takes", asking, "\x01\x09\x00\x01", []impl.Choice{signal, signal, signal, signal, signal, signal}, "\x01\x06"},
		{"an answer too great", asking, "\x00\x03\x90\x4e\x07", nil, ""},
		{"an answer too great behind one", asking, "\x00\x03\x07\x90\x4e", []impl.Choice{{Reply: 7}, {}}, "\x00\x02\x07"},
		{"an answer as great as it goes", asking, "\x00\x03\x07" + most, []impl.Choice{{Reply: 7}, {}}, "\x00\x02\x07"},
		{"an answer where none is asked for", jumps, "\x00\x02\x07", steps(0, 0), "\x00\x02"},
		{"a thread in more bytes than needed", jumps, "\x80\x00\x01", nil, ""},
		{"a number of steps in more bytes than needed", jumps, "\x00\x81\x00", nil, ""},
		{"no steps in more bytes than needed, and more behind", jumps, "\x00\x80\x00\x00\x01", nil, ""},
		{"an answer in more bytes than needed", asking, "\x00\x01\x87\x00", nil, ""},
		{"more bytes than needed behind a slice", jumps, "\x00\x02\x00\x81\x80\x00", steps(0, 0), "\x00\x02"},
		{"more bytes than needed behind an answer", asking, "\x00\x03\x07\x88\x00", []impl.Choice{{Reply: 7}, {}}, "\x00\x02\x07"},
		{"301 steps", jumps, "\x00\xad\x02", make([]impl.Choice, 300), "\x00\xac\x02"},
		{"as many steps as it goes", jumps, "\x00" + most, make([]impl.Choice, 300), "\x00\xac\x02"},
		{"a step behind 300", jumps, "\x00\xac\x02\x00\x01", make([]impl.Choice, 300), "\x00\xac\x02"},
		{"500 slices of one step", jumps, strings.Repeat("\x00\x01", 500), make([]impl.Choice, 300), "\x00\xac\x02"},
		{"more steps than there are numbers for", jumps, "\x00" + strings.Repeat("\xff", 9) + "\x01", nil, ""},
		{"a number without an end", jumps, "\x00\x01\x00" + strings.Repeat("\x80", 1000), steps(0), "\x00\x01"},
		{"a step of a thread that is done", program(t, -1, "halt"), "\x00\x02", steps(0), "\x00\x01"},
		{"a step of a thread that has failed", program(t, -1, "ret"), "\x00\x02", steps(0), "\x00\x01"},
		{"it waits for itself", program(t, -1, "lock 0", "jump 0"), "\x00\x05", steps(0, 0), "\x00\x02"},
	}
}

func TestP9SpoiltTapesByHand(t *testing.T) {
	for _, row := range spoiltTapes(t) {
		got := impl.ReadTape(row.p, row.tape)
		if !slices.Equal(got, row.list) {
			t.Errorf("%s: on %q stands %v, want %v", row.what, row.tape, got, row.list)
		}
		if !impl.RunOk(row.p, got) || len(machinesExpected(row.p, got)) != len(got)+1 {
			t.Errorf("%s: what stands on %q is no run: %v", row.what, row.tape, got)
		}
	}
}

// readsRuns fails if promise 9 is broken for bytes, and others behind them.
func readsRuns(t *testing.T, p impl.Program, tape string, more string) {
	t.Helper()
	list := impl.ReadTape(p, tape)
	if len(machinesExpected(p, list)) != len(list)+1 || !impl.RunOk(p, list) {
		t.Fatalf("what stands on %q of %v is no run: %v", tape, p, list)
	}
	longer := impl.ReadTape(p, tape+more)
	if len(longer) < len(list) || !slices.Equal(longer[:len(list)], list) {
		t.Fatalf("on %q of %v stands %v, and with %q behind %v", tape, p, list, more, longer)
	}
}

func TestP9EachShortTape(t *testing.T) {
	texts := eachText("\x00\x01\x02\x03\x80", 5)
	for _, p := range smallPrograms(t) {
		some := 0
		for _, tape := range texts {
			list, _ := tapeAsExpected(t, p, tape)
			readsRuns(t, p, tape, "")
			if tape != "" {
				readsRuns(t, p, tape[:len(tape)-1], tape[len(tape)-1:])
			}
			if len(list) > 0 {
				some++
			}
		}
		if some < 100 {
			t.Fatalf("on only %d tapes of %v there stood choices", some, p)
		}
	}
}

func TestP9WhateverBytesThereAre(t *testing.T) {
	d := dice{seed: 63}
	some, none := 0, 0
	for i := 0; i < 1500; i++ {
		p := d.lively()
		r, _ := recordExpected(p, d.longRun(p, d.oneOf([]int{0, 1, 3, 20, 60})))
		tape := d.mangledTape(tapeExpected(p, r))
		if d.below(3) == 0 {
			tape = d.bytes(d.oneOf([]int{0, 1, 2, 4, 10, 100}))
		}
		list, _ := tapeAsExpected(t, p, tape)
		readsRuns(t, p, tape, d.bytes(d.oneOf([]int{1, 2, 3, 50})))
		k := d.below(len(tape) + 1)
		readsRuns(t, p, tape[:k], tape[k:])
		if len(list) > 0 {
			some++
		} else {
			none++
		}
	}
	if some < 300 || none < 100 {
		t.Fatalf("on %d tapes there stood choices, and on %d none", some, none)
	}
}

func TestP9NothingStandsOnTapesOfOthers(t *testing.T) {
	for _, p := range brokenPrograms() {
		for _, tape := range []string{"", "\x00", "\x00\x00", "\x00\x01", "\x00\x01\x00", "\x00\xac\x02", strings.Repeat("\x00\x01", 500)} {
			if list := impl.ReadTape(p, tape); len(list) != 0 {
				t.Errorf("on %q of %v, which is no program, stands %v", tape, p, list)
			}
			if r, ok := impl.TapeRecord(p, tape); ok || !isNoRecord(r) || impl.TapeOk(p, tape) {
				t.Errorf("%q is a tape of %v, which is no program: %v, %v", tape, p, r, ok)
			}
			if mended := impl.TapeMend(p, tape); mended != "" {
				t.Errorf("%q of %v, which is no program, is mended as %q", tape, p, mended)
			}
		}
	}
}

func TestP10SpoiltTapesByHand(t *testing.T) {
	for _, row := range spoiltTapes(t) {
		if got := impl.TapeMend(row.p, row.tape); got != row.mended {
			t.Errorf("%s: %q is mended as %q, want %q", row.what, row.tape, got, row.mended)
		}
		mendedTellsAsMuch(t, row.p, row.tape)
	}
}

// mendedTellsAsMuch fails if promise 10 is broken for bytes and a program.
func mendedTellsAsMuch(t *testing.T, p impl.Program, tape string) {
	t.Helper()
	mended := impl.TapeMend(p, tape)
	if !impl.TapeOk(p, mended) {
		t.Fatalf("%q of %v is mended as %q, which is no tape", tape, p, mended)
	}
	was, now := impl.ReadTape(p, tape), impl.ReadTape(p, mended)
	if !slices.Equal(was, now) {
		t.Fatalf("on %q of %v stands %v, and mended, on %q, %v", tape, p, was, mended, now)
	}
	if again := impl.TapeMend(p, mended); again != mended {
		t.Fatalf("%q of %v is mended as %q, and this as %q", tape, p, mended, again)
	}
	if impl.TapeOk(p, tape) && mended != tape {
		t.Fatalf("%q is a tape of %v, and mended as %q", tape, p, mended)
	}
}

func TestP10TapesStayAsTheyAre(t *testing.T) {
	for _, row := range tapes(t) {
		if got := impl.TapeMend(row.p, row.tape); got != row.tape {
			t.Errorf("%s: %q is mended as %q", row.what, row.tape, got)
		}
		for k := range row.tape {
			mendedTellsAsMuch(t, row.p, row.tape[:k])
		}
	}
}

func TestP10MendedTapesTellAsMuch(t *testing.T) {
	d := dice{seed: 64}
	good, bad := 0, 0
	for i := 0; i < 1200; i++ {
		p := d.lively()
		r, _ := recordExpected(p, d.longRun(p, d.oneOf([]int{0, 1, 3, 20, 100})))
		tape := d.mangledTape(tapeExpected(p, r))
		mendedTellsAsMuch(t, p, tape)
		if _, is := tapeAsExpected(t, p, tape); is {
			good++
		} else {
			bad++
		}
	}
	if good < 200 || bad < 200 {
		t.Fatalf("%d were tapes, and %d were none", good, bad)
	}
}

func TestP78TapesByHand(t *testing.T) {
	for _, row := range tapes(t) {
		list, _ := replayExpected(row.p, row.r)
		if got := impl.ReadTape(row.p, row.tape); !slices.Equal(got, list) {
			t.Errorf("%s: on %q stands %v, want %v", row.what, row.tape, got, list)
		}
		if r, ok := impl.TapeRecord(row.p, row.tape); !ok || !sameRecord(r, row.r) || !impl.TapeOk(row.p, row.tape) {
			t.Errorf("%s: %q is the tape of %v, %v, want %v", row.what, row.tape, r, ok, row.r)
		}
	}
}

// givesBoth fails if promise 78 is broken for a run.
func givesBoth(t *testing.T, p impl.Program, list []impl.Choice) {
	t.Helper()
	r, _ := impl.RecordOf(p, list)
	tape := impl.TapeOf(p, r)
	if got := impl.ReadTape(p, tape); !slices.Equal(got, list) {
		t.Fatalf("%v of %v is on the tape %q, on which stands %v", list, p, tape, got)
	}
	if got, ok := impl.TapeRecord(p, tape); !ok || !sameRecord(got, r) || !impl.TapeOk(p, tape) {
		t.Fatalf("%v of %v has the tape %q, which is one of %v, %v", r, p, tape, got, ok)
	}
}

func TestP78ATapeGivesItsRunAndItsRecording(t *testing.T) {
	d := dice{seed: 65}
	for i := 0; i < 300; i++ {
		p := d.lively()
		n := d.oneOf([]int{0, 1, 2, 30, 299, 300})
		givesBoth(t, p, d.longRun(p, n))
		givesBoth(t, p, d.run(p, n))
	}
	for _, p := range smallPrograms(t) {
		for _, list := range eachRun(p, 3) {
			givesBoth(t, p, list)
		}
	}
}

func TestP79SpoiltTapesAreNone(t *testing.T) {
	for _, row := range spoiltTapes(t) {
		if r, ok := impl.TapeRecord(row.p, row.tape); ok || !isNoRecord(r) || impl.TapeOk(row.p, row.tape) {
			t.Errorf("%s: %q is the tape of %v, %v", row.what, row.tape, r, ok)
		}
	}
	// Cut where a slice ends, a tape is one; cut anywhere else, it is none.
	for _, row := range tapes(t) {
		ends := map[string]bool{}
		for n := 0; n <= row.stand[len(row.tape)]; n++ {
			list, _ := replayExpected(row.p, row.r)
			r, _ := recordExpected(row.p, list[:n])
			ends[tapeExpected(row.p, r)] = true
		}
		for k := range row.tape {
			if impl.TapeOk(row.p, row.tape[:k]) != ends[row.tape[:k]] {
				t.Errorf("%s: %q is a tape: %v", row.what, row.tape[:k], !ends[row.tape[:k]])
			}
		}
	}
}

func TestP79ATapeIsWhatIsWrittenOfWhatItTells(t *testing.T) {
	d := dice{seed: 66}
	good, bad := 0, 0
	for i := 0; i < 1500; i++ {
		p := d.lively()
		first, _ := recordExpected(p, d.longRun(p, d.oneOf([]int{0, 1, 3, 20, 100})))
		tape := d.mangledTape(tapeExpected(p, first))
		r, ok := impl.RecordOf(p, impl.ReadTape(p, tape))
		if !ok {
			t.Fatalf("what stands on %q of %v is no run", tape, p)
		}
		is := impl.TapeOf(p, r) == tape
		if impl.TapeOk(p, tape) != is {
			t.Fatalf("%q tells %v of %v, of which %q is written, and is a tape: %v", tape, r, p, impl.TapeOf(p, r), !is)
		}
		if is {
			good++
		} else {
			bad++
		}
	}
	if good < 300 || bad < 300 {
		t.Fatalf("%d were tapes, and %d were none", good, bad)
	}
}

func TestP80EachShortRecordingHasOneTape(t *testing.T) {
	texts := eachText("\x00\x01\x02\x03", 6)
	for _, p := range smallPrograms(t) {
		tapeFor := map[string]string{}
		for _, tape := range texts {
			r, ok := impl.TapeRecord(p, tape)
			if !ok {
				continue
			}
			key := fmt.Sprint(r)
			if other, there := tapeFor[key]; there {
				t.Fatalf("%q and %q are tapes of %v of %v", other, tape, r, p)
			}
			if again := impl.TapeOf(p, r); again != tape {
				t.Fatalf("%q is the tape of %v of %v, which is written %q", tape, r, p, again)
			}
			tapeFor[key] = tape
		}
		for _, list := range eachRun(p, 2) {
			r, _ := impl.RecordOf(p, list)
			if tape, there := tapeFor[fmt.Sprint(r)]; !there || tape != tapeExpected(p, r) {
				t.Fatalf("no tape of six bytes is one of %v of %v: %q", r, p, tape)
			}
		}
	}
}

func TestP80OtherRecordingsHaveOtherTapes(t *testing.T) {
	p := program(t, 1, "ask 0", "begin 0", "jump 0")
	recordFor := map[string]impl.Record{}
	for _, list := range eachRun(p, 5) {
		r, _ := impl.RecordOf(p, list)
		tape := impl.TapeOf(p, r)
		if other, there := recordFor[tape]; there {
			t.Fatalf("%q is the tape of %v and %v of %v", tape, other, r, p)
		}
		recordFor[tape] = r
	}
	if len(recordFor) < 300 {
		t.Fatalf("there were only %d recordings", len(recordFor))
	}
}

// anyProgram returns a program, or what is none.
func (d *dice) anyProgram() impl.Program {
	if d.below(3) == 0 {
		return d.fromTexts()
	}
	return d.mangledProgram(d.lively())
}

// anyTape returns bytes: a tape of a program, one that was mangled, or as they come.
func (d *dice) anyTape(p impl.Program) string {
	if !impl.ProgramOk(p) || d.below(4) == 0 {
		return d.bytes(d.oneOf([]int{0, 1, 2, 3, 5, 10, 100, 1000}))
	}
	r, _ := recordExpected(p, d.longRun(p, d.oneOf([]int{0, 1, 3, 20, 60, 300})))
	tape := d.mangledTape(tapeExpected(p, r))
	return tape[:min(len(tape), 1000)]
}

func TestP163OverWhateverProgramsAndRows(t *testing.T) {
	d := dice{seed: 67}
	good, bad := 0, 0
	for i := 0; i < 3000; i++ {
		p := d.anyProgram()
		r := d.rows()
		if d.below(3) > 0 && impl.ProgramOk(p) {
			r, _ = recordExpected(p, d.longRun(p, d.oneOf([]int{1, 3, 20, 300})))
			r = d.mangledRecord(r)
		}
		if impl.RecordOk(p, r) {
			good++
			cutAnywhere(t, p, r, 41)
			continue
		}
		bad++
		if tape := impl.TapeOf(p, r); tape != "" {
			t.Fatalf("%v of %v is no recording, and has the tape %q", r, p, tape)
		}
	}
	if good < 500 || bad < 500 {
		t.Fatalf("%d were recordings, and %d were none", good, bad)
	}
}

func TestP164OverWhateverProgramsAndBytes(t *testing.T) {
	d := dice{seed: 68}
	some, none := 0, 0
	for i := 0; i < 3000; i++ {
		p := d.anyProgram()
		tape := d.anyTape(p)
		list, _ := tapeAsExpected(t, p, tape)
		if !impl.ProgramOk(p) {
			none++
			continue
		}
		readsRuns(t, p, tape, d.bytes(d.oneOf([]int{1, 2, 3, 1000})))
		k := d.below(len(tape) + 1)
		readsRuns(t, p, tape[:k], tape[k:])
		if len(list) > 0 {
			some++
		}
	}
	if some < 500 || none < 500 {
		t.Fatalf("on %d tapes there stood choices, and %d times there was no program", some, none)
	}
}

func TestP165OverWhateverProgramsAndBytes(t *testing.T) {
	d := dice{seed: 69}
	good, bad := 0, 0
	for i := 0; i < 3000; i++ {
		p := d.anyProgram()
		tape := d.anyTape(p)
		if impl.ProgramOk(p) {
			mendedTellsAsMuch(t, p, tape)
		}
		if _, is := tapeAsExpected(t, p, tape); is {
			good++
		} else {
			bad++
		}
	}
	if good < 300 || bad < 500 {
		t.Fatalf("%d were tapes, and %d were none", good, bad)
	}
}

func TestResultsOfStage5AreNew(t *testing.T) {
	d := dice{seed: 70}
	for i := 0; i < 400; i++ {
		p := d.lively()
		rows := append([]impl.Code{}, p.Rows...)
		list := d.longRun(p, d.oneOf([]int{0, 1, 2, 30}))
		was, _ := recordExpected(p, list)
		r := roomyRecord(was)
		tape := impl.TapeOf(p, r)
		made := []impl.Record{}
		for n := 0; n < 3; n++ {
			one, _ := impl.TapeRecord(p, tape)
			made = append(made, one)
			writtenInto(impl.ReadTape(p, tape))
			impl.TapeOk(p, tape)
			impl.TapeMend(p, tape+"\x00")
		}
		overwritten(made...)
		if !keptApart(made...) {
			t.Fatalf("recordings on %q of %v share memory", tape, p)
		}
		if !untouched(r, was) || !slices.Equal(p.Rows, rows) {
			t.Fatalf("%v or %v was written to: %v, %v", was, rows, r, p.Rows)
		}
		if impl.TapeOf(p, r) != tape || !slices.Equal(impl.ReadTape(p, tape), list) {
			t.Fatalf("%v of %v is kept", was, p)
		}
		givesBoth(t, p, list)
	}
}

func TestWayOfTapesIsSlicesAheadOfTheirAnswers(t *testing.T) {
	d := dice{seed: 71}
	for i := 0; i < 200; i++ {
		p := d.lively()
		list := d.longRun(p, 60)
		left, machines := list, machinesExpected(p, list)
		r, _ := impl.RecordOf(p, list)
		nums := numsOn(impl.TapeOf(p, r))
		want := []int{}
		for _, s := range r.Slices {
			want = append(want, 2*s.Who+s.Kind, s.Many)
			want = append(want, partRecord(p, machines[0], left[:s.Many]).Answers...)
			left, machines = left[s.Many:], machines[s.Many:]
		}
		if !slices.Equal(nums, want) {
			t.Fatalf("on the tape of %v of %v stand %v, want %v", r, p, nums, want)
		}
	}
	calls := callsOf(newSource(t))
	ways := [][]string{{"TapeOf", "PutNum"}, {"ReadTape", "TakeNum"}, {"ReadTape", "Do"}, {"TapeOk", "TapeOf"}, {"TapeRecord", "TapeOf"}, {"TapeMend", "ReadTape"}, {"TapeMend", "RecordOf"}, {"TapeMend", "TapeOf"}}
	for _, way := range ways {
		if !reaches(calls, way[0], way[1], map[string]bool{}) {
			t.Errorf("%s does not go by %s", way[0], way[1])
		}
	}
}
