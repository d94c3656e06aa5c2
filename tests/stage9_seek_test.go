package tests

import (
	"math"
	"math/bits"
	"slices"
	"strings"
	"testing"

	"loop.example/backintime/impl"
)

// truthsIn returns truths that are written with 0 and 1.
func truthsIn(text string) []bool {
	out := []bool{}
	for _, letter := range text {
		out = append(out, letter == '1')
	}
	return out
}

// eachTruths returns all rows of 1 to so many truths.
func eachTruths(n int) [][]bool {
	out := [][]bool{{false}, {true}}
	for k := 0; k < len(out) && len(out[k]) < n; k++ {
		for _, so := range []bool{false, true} {
			out = append(out, append(append([]bool{}, out[k]...), so))
		}
	}
	return out
}

// runOfTruths returns a run of 60 choices at most, and an expression that holds at just those of its places: each choice is answered by what holds behind it.
func runOfTruths(t *testing.T, truths []bool) (impl.Program, []impl.Choice, []impl.Part) {
	t.Helper()
	p := program(t, -1, slices.Repeat([]string{"ask 2"}, max(len(truths)-1, 1))...)
	x := when(t, "reg 0 2")
	// At the beginning the register is 0, so what holds there is its contrary.
	if truths[0] {
		x = when(t, "reg 0 2; not 0")
	}
	list := []impl.Choice{}
	for _, so := range truths[1:] {
		list = append(list, impl.Choice{Reply: 7 * numberOf(so != truths[0])})
	}
	return p, list, x
}

// forthAndBack fails if promise 17, 94 or 95 is broken at a place of a run.
func forthAndBack(t *testing.T, p impl.Program, list []impl.Choice, x []impl.Part, truths []bool, at int) {
	t.Helper()
	next, ok := impl.NextWhen(p, list, x, at)
	if ok && (next <= at || next >= len(truths) || !truths[next]) || !ok && next != len(list) {
		t.Fatalf("from %d the next one of %v in %v of %v is %d, %v", at, x, list, p, next, ok)
	}
	if slices.Contains(truths[at+1:next+numberOf(!ok)], true) {
		t.Fatalf("%v holds in %v of %v between %d and the next one, %d, %v", x, list, p, at, next, ok)
	}
	if ok && truths[at] {
		if again, there := impl.BackWhen(p, list, x, next); again != at || !there {
			t.Fatalf("from %d the next one of %v in %v of %v is %d, and back one comes to %d, %v", at, x, list, p, next, again, there)
		}
	}
	last, ok := impl.BackWhen(p, list, x, at)
	if ok && (last < 0 || last >= at || !truths[last]) || !ok && last != 0 {
		t.Fatalf("from %d the last one of %v in %v of %v is %d, %v", at, x, list, p, last, ok)
	}
	if slices.Contains(truths[last+numberOf(ok):at], true) {
		t.Fatalf("%v held in %v of %v between %d and the last one, %d, %v", x, list, p, at, last, ok)
	}
	if ok && truths[at] {
		if again, there := impl.NextWhen(p, list, x, last); again != at || !there {
			t.Fatalf("from %d the last one of %v in %v of %v is %d, and forth one comes to %d, %v", at, x, list, p, last, again, there)
		}
	}
}

// fewLooks fails if promise 18 is broken between two places of a run; it returns whether a turn is found.
func fewLooks(t *testing.T, p impl.Program, list []impl.Choice, x []impl.Part, truths []bool, low int, high int) bool {
	t.Helper()
	k, looks, ok := impl.TurnByHalves(p, list, x, low, high)
	if ok != (truths[low] != truths[high]) || !ok && (k != 0 || looks != 0) {
		t.Fatalf("of %v between %d and %d a turn is found: %d, %d, %v", truths, low, high, k, looks, ok)
	}
	if !ok {
		return false
	}
	if k <= low || k > high || truths[k] == truths[k-1] {
		t.Fatalf("of %v between %d and %d the turn %d is found", truths, low, high, k)
	}
	// The doublings up to a number are the bits of the one ahead of it.
	if most := bits.Len(uint(high - low - 1)); looks < 0 || looks > most {
		t.Fatalf("of %v between %d and %d the turn %d is found by %d looks, want %d at most", truths, low, high, k, looks, most)
	}
	return true
}

func TestP17EachRowOfTruths(t *testing.T) {
	for _, truths := range eachTruths(9) {
		p, list, x := runOfTruths(t, truths)
		for at := range truths {
			forthAndBack(t, p, list, x, truths, at)
		}
	}
}

// place is where one comes, and whether there is such a place.
type place struct {
	at int
	ok bool
}

func TestP17ForthAndBackByHand(t *testing.T) {
	p, list, _ := talker(t)
	rows := []struct {
		text string
		at   int
		next place
		last place
	}{
		// It holds at 4 and 5, from place to place.
		{"at 0; number 4; same 0 1", 0, place{4, true}, place{0, false}},
		{"at 0; number 4; same 0 1", 3, place{4, true}, place{0, false}},
		{"at 0; number 4; same 0 1", 4, place{5, true}, place{0, false}},
		{"at 0; number 4; same 0 1", 5, place{9, false}, place{4, true}},
		{"at 0; number 4; same 0 1", 6, place{9, false}, place{5, true}},
		{"at 0; number 4; same 0 1", 9, place{9, false}, place{5, true}},
		// From 6 on.
		{"cell 3", 0, place{6, true}, place{0, false}},
		{"cell 3", 5, place{6, true}, place{0, false}},
		{"cell 3", 6, place{7, true}, place{0, false}},
		{"cell 3", 8, place{9, true}, place{7, true}},
		{"cell 3", 9, place{9, false}, place{8, true}},
		// Up to 5, from the beginning on.
		{"cell 3; not 0", 0, place{1, true}, place{0, false}},
		{"cell 3; not 0", 1, place{2, true}, place{0, true}},
		{"cell 3; not 0", 5, place{9, false}, place{4, true}},
		{"cell 3; not 0", 9, place{9, false}, place{5, true}},
		// At the beginning alone, and at the end alone.
		{"at 0; not 0", 0, place{9, false}, place{0, false}},
		{"at 0; not 0", 1, place{9, false}, place{0, true}},
		{"at 0; not 0", 9, place{9, false}, place{0, true}},
		{"state 0", 0, place{9, true}, place{0, false}},
		{"state 0", 8, place{9, true}, place{0, false}},
		{"state 0", 9, place{9, false}, place{0, false}},
		// Always, and never.
		{"number 1", 0, place{1, true}, place{0, false}},
		{"number 1", 1, place{2, true}, place{0, true}},
		{"number 1", 8, place{9, true}, place{7, true}},
		{"number 1", 9, place{9, false}, place{8, true}},
		{"number 0", 0, place{9, false}, place{0, false}},
		{"number 0", 4, place{9, false}, place{0, false}},
		{"number 0", 9, place{9, false}, place{0, false}},
		// What a thread does that is not there at first, and has a signal.
		{"deep 1", 0, place{5, true}, place{0, false}},
		{"reg 1 2; deep 1; same 0 1", 0, place{1, true}, place{0, false}},
		{"reg 1 2; deep 1; same 0 1", 1, place{9, false}, place{0, true}},
		{"told; number 1; same 0 1", 0, place{7, true}, place{0, false}},
		{"told; number 1; same 0 1", 8, place{9, false}, place{7, true}},
	}
	for _, row := range rows {
		x := when(t, row.text)
		if k, ok := impl.NextWhen(p, list, x, row.at); (place{k, ok}) != row.next {
			t.Errorf("from %d the next one of %s is %d, %v, want %v", row.at, row.text, k, ok, row.next)
		}
		if k, ok := impl.BackWhen(p, list, x, row.at); (place{k, ok}) != row.last {
			t.Errorf("from %d the last one of %s is %d, %v, want %v", row.at, row.text, k, ok, row.last)
		}
		if k, ok := impl.CountNext(p, list, x, row.at, 1); (place{k, ok}) != row.next {
			t.Errorf("from %d the first one of %s is %d, %v, want %v", row.at, row.text, k, ok, row.next)
		}
		for k := 0; k < 10; k++ {
			forthAndBack(t, p, list, x, truthsExpected(p, list, x), k)
		}
	}
}

func TestP17AtTheEdgesOfRuns(t *testing.T) {
	jumps := program(t, -1, "jump 0")
	for _, n := range []int{0, 1, 2, 299, 300} {
		list := make([]impl.Choice, n)
		rows := []struct {
			text  string
			holds bool
		}{{"number 1", true}, {"number 0", false}}
		for _, row := range rows {
			x := when(t, row.text)
			next, last := place{n, false}, place{0, false}
			if row.holds && n > 0 {
				next, last = place{1, true}, place{n - 1, true}
			}
			if k, ok := impl.NextWhen(jumps, list, x, 0); (place{k, ok}) != next {
				t.Errorf("from the beginning of %d choices the next one of %s is %d, %v, want %v", n, row.text, k, ok, next)
			}
			if k, ok := impl.BackWhen(jumps, list, x, n); (place{k, ok}) != last {
				t.Errorf("from the end of %d choices the last one of %s is %d, %v, want %v", n, row.text, k, ok, last)
			}
			if k, ok := impl.NextWhen(jumps, list, x, n); k != n || ok {
				t.Errorf("from the end of %d choices the next one of %s is %d, %v", n, row.text, k, ok)
			}
			if k, ok := impl.BackWhen(jumps, list, x, 0); k != 0 || ok {
				t.Errorf("from the beginning of %d choices the last one of %s is %d, %v", n, row.text, k, ok)
			}
		}
	}
	// At the beginning alone, and at the end alone, of as many choices as may be.
	tells := program(t, -1, "tell 0", "jump 0")
	long := make([]impl.Choice, 300)
	if k, ok := impl.BackWhen(tells, long, when(t, "told; not 0"), 300); k != 0 || !ok {
		t.Errorf("back from the end one comes to %d, %v", k, ok)
	}
	if k, ok := impl.NextWhen(tells, long[:299], when(t, "told; number 150; same 0 1"), 0); k != 299 || !ok {
		t.Errorf("forth from the beginning one comes to %d, %v", k, ok)
	}
}

// smallConditions returns expressions of which some hold at some places of runs of small programs.
func smallConditions(t *testing.T) [][]impl.Part {
	t.Helper()
	out := [][]impl.Part{}
	for _, text := range []string{"number 0", "number 1", "reg 0 0", "reg 0 0; not 0", "at 0", "at 1; number 1; same 0 1", "deep 0; told; add 0 1; not 2", "state 0; state 1; add 0 1", "cell 0; at 0; less 0 1"} {
		out = append(out, when(t, text))
	}
	return out
}

func TestP17EachShortRun(t *testing.T) {
	seen := 0
	for _, p := range smallPrograms(t) {
		for _, list := range eachRun(p, 4) {
			for _, x := range smallConditions(t) {
				truths := truthsExpected(p, list, x)
				for at := range truths {
					forthAndBack(t, p, list, x, truths, at)
					soughtAsExpected(t, p, list, x, truths, at)
				}
				seen++
			}
		}
	}
	if seen < 2000 {
		t.Fatalf("there were only %d runs and expressions", seen)
	}
}

// busy returns a program of two threads that go round, and mostly do something on the way that can be looked at.
func (d *dice) busy(t *testing.T) impl.Program {
	t.Helper()
	some := []string{"ask 0", "ask 1", "set 1 1", "set 2 7", "add 0 1", "add 0 2", "sub 0 1", "less 1 0", "load 2 1 0", "store 0 1 0", "store 1 0 3", "tell 0", "move 1 2", "zero 0 1", "call 1"}
	texts := []string{"begin 1"}
	for k := 2 + d.below(8); k > 0; k-- {
		texts = append(texts, some[d.below(len(some))])
	}
	return program(t, d.below(2)*2-1, append(texts, "jump 1")...)
}

// aimed returns an expression that asks whether something has the number that it has at some place of a run, or a greater one.
func (d *dice) aimed(machines []impl.Machine) []impl.Part {
	looks := []impl.Part{{Kind: impl.PartReg, A: d.below(2), B: d.below(3)}, {Kind: impl.PartAt, A: d.below(2)}, {Kind: impl.PartCell, A: d.below(8)}, {Kind: impl.PartTold}}
	x := looks[d.oneOf([]int{0, 0, 0, 1, 1, 2, 3})]
	n := lookedExpected(machines[d.below(len(machines))], x)
	return []impl.Part{{A: n}, x, {Kind: d.oneOf([]int{impl.PartSame, impl.PartLess}), A: 0, B: 1}}
}

// turning returns an expression, of some, that turns most often in a run.
func (d *dice) turning(p impl.Program, list []impl.Choice) []impl.Part {
	machines := machinesExpected(p, list)
	out := d.when(1)
	most := -1
	for i := 0; i < 10; i++ {
		x := d.aimed(machines)
		if i > 7 {
			x = d.when(d.oneOf([]int{1, 2, 3, 5, 8, 20}))
		}
		if n := len(turnsExpected(truthsExpected(p, list, x))); n > most {
			out, most = x, n
		}
	}
	return out
}

// sought returns a program, a run of it, and an expression that mostly turns in it.
func (d *dice) sought(t *testing.T) (impl.Program, []impl.Choice, []impl.Part) {
	t.Helper()
	p := d.busy(t)
	if d.below(3) == 0 {
		p = d.lively()
	}
	list := d.longRun(p, d.oneOf([]int{0, 1, 2, 10, 20, 60, 100, 300}))
	return p, list, d.turning(p, list)
}

func TestP17ForthAndBackOverLongRuns(t *testing.T) {
	d := dice{seed: 118}
	held, turned, never := 0, 0, 0
	for i := 0; i < 250; i++ {
		p, list, x := d.sought(t)
		truths := truthsExpected(p, list, x)
		for n := 0; n < 12; n++ {
			at := d.below(len(truths))
			held += numberOf(truths[at])
			forthAndBack(t, p, list, x, truths, at)
		}
		turned += numberOf(len(turnsExpected(truths)) > 2)
		never += numberOf(!slices.Contains(truths, true))
	}
	if held < 500 || turned < 80 || never < 3 {
		t.Fatalf("at %d places it held, %d runs had many turns, and in %d it never held", held, turned, never)
	}
}

func TestP18EachTwoPlacesOfEachRowOfTruths(t *testing.T) {
	found := 0
	for _, truths := range eachTruths(8) {
		p, list, x := runOfTruths(t, truths)
		for low := range truths {
			for high := low + 1; high < len(truths); high++ {
				found += numberOf(fewLooks(t, p, list, x, truths, low, high))
				turnAsExpected(t, p, list, x, truths, low, high)
			}
		}
	}
	if found < 4000 {
		t.Fatalf("only %d turns were found", found)
	}
}

func TestP18TurnsByHalvesByHand(t *testing.T) {
	rows := []struct {
		truths string
		low    int
		high   int
		place  int
		looks  int
		ok     bool
	}{
		{"01", 0, 1, 1, 0, true},
		{"10", 0, 1, 1, 0, true},
		{"011", 0, 2, 1, 1, true},
		{"001", 0, 2, 2, 1, true},
		{"100", 0, 2, 1, 1, true},
		{"110", 0, 2, 2, 1, true},
		{"0001", 0, 3, 3, 2, true},
		{"0011", 0, 3, 2, 2, true},
		{"0111", 0, 3, 1, 1, true},
		{"00001", 0, 4, 4, 2, true},
		{"01111", 0, 4, 1, 2, true},
		{"000000001", 0, 8, 8, 3, true},
		{"0000000001", 0, 9, 9, 4, true},
		// Of several turns halves lead to one.
		{"0101", 0, 3, 1, 1, true},
		{"0101", 0, 1, 1, 0, true},
		{"0101", 1, 2, 2, 0, true},
		{"0101", 2, 3, 3, 0, true},
		{"01001", 0, 4, 4, 2, true},
		{"01101", 0, 4, 1, 2, true},
		{"00101", 0, 4, 2, 2, true},
		{"10010", 0, 4, 1, 2, true},
		// Rounded down: 2 is halfway of 1 and 4.
		{"00101", 1, 4, 2, 1, true},
		{"00011", 1, 4, 3, 2, true},
		{"1110001", 2, 5, 3, 1, true},
		// The same at both places, whatever is between them.
		{"010", 0, 2, 0, 0, false},
		{"101", 0, 2, 0, 0, false},
		{"0000", 0, 3, 0, 0, false},
		{"1111", 0, 3, 0, 0, false},
		{"0110", 1, 2, 0, 0, false},
		// Not one less than the other.
		{"01", 1, 0, 0, 0, false},
		{"01", 0, 0, 0, 0, false},
		{"01", 1, 1, 0, 0, false},
		{"0011", 3, 0, 0, 0, false},
		// No places of the run.
		{"01", -1, 1, 0, 0, false},
		{"10", -1, 1, 0, 0, false},
		{"01", 0, 2, 0, 0, false},
		{"10", 0, 2, 0, 0, false},
		{"01", 1, 2, 0, 0, false},
		{"01", math.MinInt, 1, 0, 0, false},
		{"01", 0, math.MaxInt, 0, 0, false},
		{"01", math.MinInt, math.MaxInt, 0, 0, false},
		{"01", math.MaxInt - 1, math.MaxInt, 0, 0, false},
		{"01", math.MinInt, math.MinInt + 1, 0, 0, false},
		{"0", 0, 0, 0, 0, false},
		{"1", 0, 1, 0, 0, false},
	}
	for _, row := range rows {
		p, list, x := runOfTruths(t, truthsIn(row.truths))
		k, looks, ok := impl.TurnByHalves(p, list, x, row.low, row.high)
		if k != row.place || looks != row.looks || ok != row.ok {
			t.Errorf("of %s between %d and %d the turn is %d, by %d looks, %v, want %d, %d, %v", row.truths, row.low, row.high, k, looks, ok, row.place, row.looks, row.ok)
		}
	}
}

func TestP18TurnsOfLongRuns(t *testing.T) {
	// At the place k as many were told as k halved, rounded up, so more than n from the place 2n+1 on.
	tells := program(t, -1, "tell 0", "jump 0")
	list := make([]impl.Choice, 300)
	more := func(n int) []impl.Part {
		return []impl.Part{{A: n}, {Kind: impl.PartTold}, {Kind: impl.PartLess, A: 0, B: 1}}
	}
	rows := [][5]int{
		// It looks at 150, 225, 187, 206, 196, 201, 198 and 199.
		{99, 0, 300, 199, 8},
		// At 150, 75, 37, 18, 9, 4, 2 and 1.
		{0, 0, 300, 1, 8},
		// At 150, 225, 262, 281, 290, 295, 297, 298 and 299.
		{149, 0, 300, 299, 9},
		{99, 198, 199, 199, 0},
		{99, 198, 200, 199, 1},
	}
	for _, row := range rows {
		k, looks, ok := impl.TurnByHalves(tells, list, more(row[0]), row[1], row[2])
		if k != row[3] || looks != row[4] || !ok {
			t.Errorf("that more than %d were told turns between %d and %d at %d, by %d looks, %v, want %d, %d", row[0], row[1], row[2], k, looks, ok, row[3], row[4])
		}
	}
	for n := 0; n < 150; n += 7 {
		truths := truthsExpected(tells, list, more(n))
		fewLooks(t, tells, list, more(n), truths, 0, 300)
		fewLooks(t, tells, list, more(n), truths, 2*n, 2*n+1)
		fewLooks(t, tells, list, more(n), truths, 2*n, 300)
	}
}

func TestP18TurnsByHalvesOverLongRuns(t *testing.T) {
	d := dice{seed: 119}
	found, not := 0, 0
	for i := 0; i < 250; i++ {
		p, list, x := d.sought(t)
		truths := truthsExpected(p, list, x)
		for n := 0; n < 12 && len(truths) > 1; n++ {
			low := d.below(len(truths) - 1)
			high := low + 1 + d.below(len(truths)-low-1)
			if fewLooks(t, p, list, x, truths, low, high) {
				found++
			} else {
				not++
			}
		}
	}
	if found < 500 || not < 500 {
		t.Fatalf("%d turns were found, and %d times there was none", found, not)
	}
}

func TestP94BetweenAPlaceAndTheNextOne(t *testing.T) {
	for _, text := range []string{"0", "1", "00", "01", "10", "11", "0010", "1001", "1000", "0001", "0110100010000100000", "1111111", "0000000"} {
		truths := truthsIn(text)
		p, list, x := runOfTruths(t, truths)
		for at := range truths {
			want, there := len(text)-1, false
			if k := strings.Index(text[at+1:], "1"); k >= 0 {
				want, there = at+1+k, true
			}
			if k, ok := impl.NextWhen(p, list, x, at); k != want || ok != there {
				t.Errorf("of %s from %d the next one is %d, %v, want %d, %v", text, at, k, ok, want, there)
			}
		}
	}
}

func TestP95BetweenAPlaceAndTheLastOne(t *testing.T) {
	for _, text := range []string{"0", "1", "00", "01", "10", "11", "0010", "1001", "1000", "0001", "0110100010000100000", "1111111", "0000000"} {
		truths := truthsIn(text)
		p, list, x := runOfTruths(t, truths)
		for at := range truths {
			want := max(strings.LastIndex(text[:at], "1"), 0)
			there := strings.Contains(text[:at], "1")
			if k, ok := impl.BackWhen(p, list, x, at); k != want || ok != there {
				t.Errorf("of %s from %d the last one is %d, %v, want %d, %v", text, at, k, ok, want, there)
			}
		}
	}
}

func TestP95BackOverWhateverWasDone(t *testing.T) {
	// Stores, locks, tells, threads that begin and fail, calls and signals: all of it has to be taken back for what is found.
	p := program(t, 9, "begin 3", "store 1 2 4", "jump 1", "lock 1", "free 1", "call 7", "ask 1", "tell 1", "ret", "set 1 5", "ret")
	d := dice{seed: 120}
	failed, begun := 0, 0
	for i := 0; i < 150; i++ {
		list := d.run(p, d.oneOf([]int{5, 20, 40}))
		machines := machinesExpected(p, list)
		for _, text := range []string{"at 1; not 0", "cell 4; not 0", "told; not 0", "deep 1; not 0", "state 1; number 2; same 0 1; not 2", "reg 1 1; reg 0 1; same 0 1", "at 1; number 4; same 0 1"} {
			x := when(t, text)
			truths := truthsExpected(p, list, x)
			for _, at := range []int{1, len(list) / 2, len(list)} {
				want, there := backExpected(truths, at)
				if k, ok := impl.BackWhen(p, list, x, at); k != want || ok != there {
					t.Fatalf("from %d the last one of %s in %v is %d, %v, want %d, %v", at, text, list, k, ok, want, there)
				}
			}
		}
		for _, u := range machines[len(list)].Threads {
			failed += numberOf(u.State == impl.ThreadFails)
		}
		begun += len(machines[len(list)].Threads) - 1
	}
	if failed < 20 || begun < 100 {
		t.Fatalf("%d threads failed, and %d began", failed, begun)
	}
}

func TestP96PlacesByHand(t *testing.T) {
	p, list, _ := talker(t)
	rows := []struct {
		text string
		want []int
	}{
		{"number 0", nil},
		{"number 1", []int{0, 1, 2, 3, 4, 5, 6, 7, 8, 9}},
		{"at 0; number 4; same 0 1", []int{4, 5}},
		{"cell 3", []int{6, 7, 8, 9}},
		{"cell 3; not 0", []int{0, 1, 2, 3, 4, 5}},
		{"at 0; not 0", []int{0}},
		{"state 0", []int{9}},
		{"told; number 1; same 0 1", []int{7}},
		{"deep 1; told; same 0 1", []int{0, 1, 2, 3, 4, 7}},
	}
	for _, row := range rows {
		if got := impl.PlacesWhen(p, list, when(t, row.text)); !slices.Equal(got, row.want) {
			t.Errorf("%s holds at %v, want %v", row.text, got, row.want)
		}
	}
	for _, row := range []struct {
		text string
		want []int
	}{{"number 1", []int{0}}, {"number 0", nil}, {"at 0; not 0", []int{0}}} {
		if got := impl.PlacesWhen(p, nil, when(t, row.text)); !slices.Equal(got, row.want) {
			t.Errorf("%s holds ahead of all choices at %v, want %v", row.text, got, row.want)
		}
	}
	jumps := program(t, -1, "jump 0")
	for _, n := range []int{299, 300} {
		if got := impl.PlacesWhen(jumps, make([]impl.Choice, n), when(t, "number 1")); !slices.Equal(got, allUpTo(n)) {
			t.Errorf("of %d choices what always holds does so at %v", n, got)
		}
	}
}

func TestP96ThePlacesAreJustThose(t *testing.T) {
	for _, truths := range eachTruths(9) {
		p, list, x := runOfTruths(t, truths)
		if got, want := impl.PlacesWhen(p, list, x), placesExpected(truths); !slices.Equal(got, want) {
			t.Fatalf("of %v the places are %v", truths, got)
		}
	}
	d := dice{seed: 121}
	held, not := 0, 0
	for i := 0; i < 500; i++ {
		p, list, x := d.sought(t)
		places := impl.PlacesWhen(p, list, x)
		if !ascends(places) || !within(places, 0, len(list)) {
			t.Fatalf("%v holds in %v of %v at %v", x, list, p, places)
		}
		for at, m := range impl.Machines(p, list) {
			if impl.Holds(m, x) != slices.Contains(places, at) {
				t.Fatalf("%v holds in %v of %v at %v, but at %d: %v", x, list, p, places, at, impl.Holds(m, x))
			}
		}
		held += len(places)
		not += len(list) + 1 - len(places)
	}
	if held < 5000 || not < 5000 {
		t.Fatalf("at %d places it held, and at %d it did not", held, not)
	}
}

func TestP97TurnsByHand(t *testing.T) {
	rows := []struct {
		truths string
		want   []int
	}{
		{"0", nil}, {"1", nil}, {"00", nil}, {"11", nil}, {"01", []int{1}}, {"10", []int{1}},
		{"010", []int{1, 2}}, {"101", []int{1, 2}}, {"011", []int{1}}, {"001", []int{2}}, {"110", []int{2}},
		{"0000000", nil}, {"1111111", nil}, {"0000001", []int{6}}, {"1111110", []int{6}}, {"0111110", []int{1, 6}},
		{"0101010", []int{1, 2, 3, 4, 5, 6}}, {"00110011", []int{2, 4, 6}},
	}
	for _, row := range rows {
		p, list, x := runOfTruths(t, truthsIn(row.truths))
		if got := impl.TurnsWhen(p, list, x); !slices.Equal(got, row.want) {
			t.Errorf("of %s the turns are %v, want %v", row.truths, got, row.want)
		}
	}
	jumps := program(t, -1, "jump 1", "jump 0")
	if got := impl.TurnsWhen(jumps, make([]impl.Choice, 300), when(t, "at 0")); !slices.Equal(got, allUpTo(300)[1:]) {
		t.Errorf("of 300 choices that go forth and back the turns are %v", got)
	}
}

// evenly fails if promise 97 is broken up to each place of a run: by an even number of turns one comes to what was at first.
func evenly(t *testing.T, turns []int, truths []bool) {
	t.Helper()
	if !ascends(turns) || !within(turns, 1, len(truths)-1) {
		t.Fatalf("of %v the turns are %v", truths, turns)
	}
	for at := range truths {
		many := 0
		for _, k := range turns {
			many += numberOf(k <= at)
		}
		if (many%2 == 0) != (truths[at] == truths[0]) {
			t.Fatalf("of %v there are %d turns up to %d: %v", truths, many, at, turns)
		}
	}
}

func TestP97AnEvenNumberOfTurns(t *testing.T) {
	for _, truths := range eachTruths(10) {
		p, list, x := runOfTruths(t, truths)
		evenly(t, impl.TurnsWhen(p, list, x), truths)
	}
	d := dice{seed: 122}
	even, odd := 0, 0
	for i := 0; i < 500; i++ {
		p, list, x := d.sought(t)
		turns := impl.TurnsWhen(p, list, x)
		evenly(t, turns, truthsExpected(p, list, x))
		even += numberOf(len(turns)%2 == 0)
		odd += numberOf(len(turns)%2 == 1)
		// The contrary turns where it does itself.
		if not := impl.WhenNot(x); len(not) > 0 && !slices.Equal(impl.TurnsWhen(p, list, not), turns) {
			t.Fatalf("the turns of %v in %v of %v are %v, and those of its contrary others", x, list, p, turns)
		}
	}
	if even < 100 || odd < 100 {
		t.Fatalf("%d times there was an even number of turns, and %d times an odd one", even, odd)
	}
}

func TestP98CountedByHand(t *testing.T) {
	rows := []struct {
		truths string
		at     int
		n      int
		want   place
	}{
		{"010110", 0, 1, place{1, true}}, {"010110", 0, 2, place{3, true}}, {"010110", 0, 3, place{4, true}}, {"010110", 0, 4, place{5, false}},
		{"010110", 1, 1, place{3, true}}, {"010110", 1, 2, place{4, true}}, {"010110", 1, 3, place{5, false}},
		{"010110", 2, 2, place{4, true}}, {"010110", 3, 1, place{4, true}}, {"010110", 4, 1, place{5, false}}, {"010110", 5, 1, place{5, false}},
		{"1111", 0, 1, place{1, true}}, {"1111", 0, 3, place{3, true}}, {"1111", 0, 4, place{3, false}}, {"1111", 3, 1, place{3, false}}, {"1111", 2, 1, place{3, true}}, {"1111", 2, 2, place{3, false}},
		{"0000", 0, 1, place{3, false}}, {"0000", 0, 3, place{3, false}}, {"1000", 0, 1, place{3, false}}, {"0001", 0, 1, place{3, true}}, {"0001", 0, 2, place{3, false}},
		{"1", 0, 1, place{0, false}}, {"0", 0, 1, place{0, false}}, {"1", 0, 2, place{0, false}},
		{"1111", 0, 1000, place{3, false}}, {"1111", 0, math.MaxInt, place{3, false}}, {"0000", 1, math.MaxInt, place{3, false}}, {"1", 0, math.MaxInt, place{0, false}},
		{"1111", 0, 0, place{0, false}}, {"1111", 2, 0, place{0, false}}, {"1111", 2, -1, place{0, false}}, {"1111", 3, math.MinInt, place{0, false}}, {"1111", 3, 0, place{0, false}},
		{"1111", -1, 1, place{0, false}}, {"1111", 4, 1, place{0, false}}, {"1111", 5, 1, place{0, false}}, {"1111", math.MinInt, 1, place{0, false}}, {"1111", math.MaxInt, 1, place{0, false}},
		{"1111", -1, 0, place{0, false}}, {"1111", math.MaxInt, math.MaxInt, place{0, false}}, {"1111", -1, math.MaxInt, place{0, false}},
	}
	for _, row := range rows {
		p, list, x := runOfTruths(t, truthsIn(row.truths))
		if k, ok := impl.CountNext(p, list, x, row.at, row.n); (place{k, ok}) != row.want {
			t.Errorf("of %s from %d the place %d is %d, %v, want %v", row.truths, row.at, row.n, k, ok, row.want)
		}
	}
}

// countsOn fails if promise 98 is broken from a place of a run: counting on is going on again and again, and counting so many and some more at once.
func countsOn(t *testing.T, p impl.Program, list []impl.Choice, x []impl.Part, at int, n int) {
	t.Helper()
	now, ok := at, true
	for k := 1; k <= n; k++ {
		if ok {
			now, ok = impl.NextWhen(p, list, x, now)
		}
		got, there := impl.CountNext(p, list, x, at, k)
		if got != now || there != ok {
			t.Fatalf("from %d the place %d of %v in %v of %v is %d, %v, and by the next ones %d, %v", at, k, x, list, p, got, there, now, ok)
		}
		if again, rest := impl.CountNext(p, list, x, got, n-k); there && n > k {
			if all, whole := impl.CountNext(p, list, x, at, n); again != all || rest != whole {
				t.Fatalf("from %d %d places and %d more of %v in %v of %v lead to %d, %v, and all at once to %d, %v", at, k, n-k, x, list, p, again, rest, all, whole)
			}
		}
	}
}

func TestP98CountingOnIsGoingOn(t *testing.T) {
	for _, truths := range eachTruths(7) {
		p, list, x := runOfTruths(t, truths)
		for at := range truths {
			countsOn(t, p, list, x, at, len(truths)+1)
		}
	}
	d := dice{seed: 123}
	for i := 0; i < 150; i++ {
		p, list, x := d.sought(t)
		countsOn(t, p, list, x, d.below(len(list)+1), 1+d.below(8))
	}
	jumps := program(t, -1, "jump 0")
	long := make([]impl.Choice, 300)
	for _, n := range []int{1, 299, 300, 301} {
		if k, ok := impl.CountNext(jumps, long, when(t, "number 1"), 0, n); k != min(n, 300) || ok != (n <= 300) {
			t.Errorf("of 301 places the one that is %d on is %d, %v", n, k, ok)
		}
	}
}

// nowhere fails if of what is no run, no expression, or no place anything but the fixed results is returned.
func nowhere(t *testing.T, what string, p impl.Program, list []impl.Choice, x []impl.Part, places []int) {
	t.Helper()
	for _, at := range places {
		if k, ok := impl.NextWhen(p, list, x, at); k != 0 || ok {
			t.Fatalf("%s: from %d the next one is %d, %v", what, at, k, ok)
		}
		if k, ok := impl.BackWhen(p, list, x, at); k != 0 || ok {
			t.Fatalf("%s: from %d the last one is %d, %v", what, at, k, ok)
		}
		for _, n := range []int{math.MinInt, -1, 0, 1, 2, math.MaxInt} {
			if k, ok := impl.CountNext(p, list, x, at, n); k != 0 || ok {
				t.Fatalf("%s: from %d the place %d is %d, %v", what, at, n, k, ok)
			}
		}
		for _, other := range []int{math.MinInt, -1, 0, 1, 2, len(list), 300, math.MaxInt} {
			low, high := min(at, other), max(at, other)
			if k, looks, ok := impl.TurnByHalves(p, list, x, low, high); k != 0 || looks != 0 || ok {
				t.Fatalf("%s: between %d and %d a turn is %d, by %d looks, %v", what, low, high, k, looks, ok)
			}
		}
	}
}

// nothingSought fails if anything is found in what is no run, or by what is no expression.
func nothingSought(t *testing.T, what string, p impl.Program, list []impl.Choice, x []impl.Part) {
	t.Helper()
	nowhere(t, what, p, list, x, []int{math.MinInt, -1, 0, 1, 2, len(list) - 1, len(list), len(list) + 1, 300, 301, math.MaxInt})
	if places := impl.PlacesWhen(p, list, x); len(places) != 0 {
		t.Fatalf("%s: it holds at %v", what, places)
	}
	if turns := impl.TurnsWhen(p, list, x); len(turns) != 0 {
		t.Fatalf("%s: it turns at %v", what, turns)
	}
}

func TestP17NothingIsFoundInWhatIsNoRun(t *testing.T) {
	p, list, _ := talker(t)
	jumps := program(t, -1, "jump 1", "jump 0")
	for _, text := range []string{"number 1", "number 0", "at 0", "at 0; not 0"} {
		x := when(t, text)
		nothingSought(t, "a choice that can not be made, ahead", p, joined(steps(2), list...), x)
		nothingSought(t, "a choice that can not be made, behind", p, joined(list, impl.Choice{}), x)
		nothingSought(t, "a choice that can not be made, in the middle", p, slices.Concat(list[:4], steps(3), list[4:]), x)
		nothingSought(t, "an answer where nothing is asked", p, []impl.Choice{{Reply: 1}}, x)
		nothingSought(t, "no such kind", p, []impl.Choice{{Kind: 2}}, x)
		nothingSought(t, "no such thread", p, []impl.Choice{{Who: math.MaxInt}}, x)
		nothingSought(t, "301 choices", jumps, make([]impl.Choice, 301), x)
		nothingSought(t, "1000 choices", jumps, make([]impl.Choice, 1000), x)
		for _, bad := range brokenPrograms() {
			nothingSought(t, "what is no program", bad, nil, x)
			nothingSought(t, "what is no program, with a choice", bad, steps(0), x)
		}
	}
}

func TestP17NothingIsFoundByWhatIsNoExpression(t *testing.T) {
	p, list, _ := talker(t)
	bad := [][]impl.Part{nil, {}, {{A: -1}}, {{A: 10000}}, {{Kind: 12}}, {{Kind: -1}}, {{A: 1, B: 1}}, {{}, {Kind: impl.PartNot, A: 1}}, {{Kind: impl.PartTold, A: 1}}, make([]impl.Part, 21), make([]impl.Part, 1000)}
	for _, x := range bad {
		nothingSought(t, "no expression", p, list, x)
		nothingSought(t, "no expression, and no choices", p, nil, x)
	}
	full := append(make([]impl.Part, 19), impl.Part{Kind: impl.PartAt})
	if got := impl.PlacesWhen(p, list, full); !slices.Equal(got, allUpTo(9)[1:]) {
		t.Errorf("of 20 parts the places are %v", got)
	}
}

func TestP17NothingIsFoundFromWhatIsNoPlace(t *testing.T) {
	p, list, _ := talker(t)
	for _, text := range []string{"number 1", "number 0", "at 0", "at 0; not 0"} {
		nowhere(t, "no place", p, list, when(t, text), []int{math.MinInt, -300, -10, -2, -1, 10, 11, 300, 301, math.MaxInt})
		nowhere(t, "no place of no choices", p, nil, when(t, text), []int{math.MinInt, -1, 1, 2, 300, math.MaxInt})
	}
}

// whatever returns a program, a row of choices and parts, which are mostly a run and an expression, and the truths that they have then.
func (d *dice) whatever(t *testing.T) (impl.Program, []impl.Choice, []impl.Part, []bool) {
	t.Helper()
	p := d.mangledProgram(d.busy(t))
	if d.below(2) == 0 {
		p = d.anyProgram()
	}
	list := []impl.Choice{}
	if impl.ProgramOk(p) {
		list = d.longRun(p, d.oneOf([]int{0, 1, 3, 20, 60, 300}))
	}
	x := d.anyWhen()
	if impl.ProgramOk(p) && d.below(4) > 0 {
		x = d.turning(p, list)
	}
	if d.below(4) == 0 {
		list = d.mangledRun(list)
	}
	return p, list, x, truthsExpected(p, list, x)
}

func TestP172OverWhateverProgramsAndRows(t *testing.T) {
	d := dice{seed: 124}
	good, bad := 0, 0
	for i := 0; i < 1000; i++ {
		p, list, x, truths := d.whatever(t)
		places := []int{d.below(len(list) + 1), d.below(len(list) + 1), len(list), d.oneOf(append(fieldsNear(), len(list)+1, 300, 301))}
		allSoughtAsExpected(t, p, list, x, truths, places)
		if len(truths) > 0 {
			good++
		} else {
			bad++
		}
	}
	if good < 300 || bad < 300 {
		t.Fatalf("in %d it was sought, and in %d there was nothing to seek", good, bad)
	}
}

func TestP172ForthAndBackOverWhatever(t *testing.T) {
	d := dice{seed: 125}
	good, held := 0, 0
	for i := 0; i < 1000; i++ {
		p, list, x, truths := d.whatever(t)
		if len(truths) == 0 {
			nothingSought(t, "what is no run, or no expression", p, list, x)
			continue
		}
		good++
		for n := 0; n < 6; n++ {
			at := d.below(len(truths))
			held += numberOf(truths[at])
			forthAndBack(t, p, list, x, truths, at)
		}
	}
	if good < 300 || held < 500 {
		t.Fatalf("%d were runs and expressions, and from %d places at which it held one went", good, held)
	}
}

func TestP173FewLooksOverWhatever(t *testing.T) {
	d := dice{seed: 126}
	found, not, bad := 0, 0, 0
	for i := 0; i < 1500; i++ {
		p, list, x, truths := d.whatever(t)
		for n := 0; n < 6; n++ {
			low, high := d.below(len(list)+2)-1, d.below(len(list)+2)
			turnAsExpected(t, p, list, x, truths, low, high)
			if low < 0 || low >= high || high >= len(truths) {
				bad++
			} else if fewLooks(t, p, list, x, truths, low, high) {
				found++
			} else {
				not++
			}
		}
	}
	if found < 300 || not < 300 || bad < 1000 {
		t.Fatalf("%d turns were found, %d times it was the same at both places, and %d times there were none such", found, not, bad)
	}
}

// roomyChoices returns choices with room behind their end in which a write would be seen.
func roomyChoices(list []impl.Choice) []impl.Choice {
	out := append(make([]impl.Choice, 0, len(list)+2), list...)
	copy(out[len(out):cap(out)], steps(-88, -88))
	return out
}

// choicesUnharmed reports whether choices and the room behind them are as roomyChoices left them.
func choicesUnharmed(list []impl.Choice, was []impl.Choice) bool {
	return slices.Equal(list, was) && slices.Equal(list[len(list):cap(list)], steps(-88, -88))
}

func TestResultsOfSeekingAreNew(t *testing.T) {
	d := dice{seed: 127}
	for i := 0; i < 300; i++ {
		p := d.lively()
		rows := append([]impl.Code{}, p.Rows...)
		was := d.run(p, d.oneOf([]int{0, 1, 2, 20}))
		list := roomyChoices(was)
		wasWhen := d.turning(p, was)
		x := roomyParts(wasWhen)
		at := d.below(len(was) + 1)
		impl.NextWhen(p, list, x, at)
		impl.BackWhen(p, list, x, at)
		impl.CountNext(p, list, x, at, 2)
		impl.TurnByHalves(p, list, x, 0, at)
		made := [][]int{impl.PlacesWhen(p, list, x), impl.PlacesWhen(p, list, x), impl.TurnsWhen(p, list, x), impl.TurnsWhen(p, list, x)}
		for k, places := range made {
			for n := range places[:cap(places)] {
				places[:cap(places)][n] = -1 - k
			}
		}
		for k, places := range made {
			if !within(places[:cap(places)], -1-k, -1-k) {
				t.Fatalf("places of %v in %v of %v share memory", wasWhen, was, p)
			}
		}
		if !choicesUnharmed(list, was) || !slices.Equal(p.Rows, rows) || !partsUnharmed(x, wasWhen) {
			t.Fatalf("%v, %v or %v was written to", was, rows, wasWhen)
		}
		allSoughtAsExpected(t, p, list, x, truthsExpected(p, was, wasWhen), []int{0, at, len(was)})
	}
}

func TestWayOfSeekingIsPlaceByPlace(t *testing.T) {
	calls := callsOf(newSource(t))
	for _, way := range [][]string{{"BackWhen", "TakeBack"}, {"BackWhen", "UndosOf"}, {"BackWhen", "Holds"}, {"TurnByHalves", "Holds"}, {"NextWhen", "Holds"}, {"PlacesWhen", "Holds"}, {"TurnsWhen", "Holds"}, {"CountNext", "Holds"}} {
		if !reaches(calls, way[0], way[1], map[string]bool{}) {
			t.Errorf("%s does not go by %s", way[0], way[1])
		}
	}
	for _, name := range []string{"BackWhen", "TurnByHalves"} {
		if reaches(calls, name, "Truths", map[string]bool{}) {
			t.Errorf("%s looks at all places", name)
		}
	}
}
