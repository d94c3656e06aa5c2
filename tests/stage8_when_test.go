package tests

import (
	"math"
	"slices"
	"strconv"
	"strings"
	"testing"

	"loop.example/backintime/impl"
)

// when returns parts that are told in words, whether they are an expression or not: a kind, A and B, with "; " between two parts.
func when(t *testing.T, text string) []impl.Part {
	t.Helper()
	names := []string{"number", "reg", "cell", "at", "deep", "state", "told", "add", "less", "same", "and", "not"}
	out := []impl.Part{}
	for _, one := range strings.Split(text, "; ") {
		words := append(strings.Fields(one), "0", "0")
		a, errA := strconv.Atoi(words[1])
		b, errB := strconv.Atoi(words[2])
		kind := slices.Index(names, words[0])
		if kind < 0 || errA != nil || errB != nil {
			t.Fatal("no part:", one)
		}
		out = append(out, impl.Part{Kind: kind, A: a, B: b})
	}
	return out
}

// noWhen fails if anything but the fixed results is returned for parts that are no expression.
func noWhen(t *testing.T, what string, list []impl.Part) {
	t.Helper()
	if impl.WhenOk(list) {
		t.Errorf("%s: %v is an expression", what, list)
	}
	machines := []impl.Machine{impl.MachineNew(), withCell(withTold(machineOf(at(1, 1, 1, 1, 1)), 1), 0, 1), {}}
	for _, m := range machines {
		if n := impl.WhenValue(m, list); n != -1 || impl.Holds(m, list) {
			t.Errorf("%s: %v has the number %d in %v, and holds: %v", what, list, n, m, impl.Holds(m, list))
		}
	}
	if not := impl.WhenNot(list); len(not) != 0 {
		t.Errorf("%s: the contrary of %v is %v", what, list, not)
	}
	one := []impl.Part{{A: 1}}
	for _, both := range [][]impl.Part{impl.WhenBoth(list, one), impl.WhenBoth(one, list), impl.WhenBoth(list, list)} {
		if len(both) != 0 {
			t.Errorf("%s: %v and another one are %v", what, list, both)
		}
	}
	p := program(t, -1, "jump 0")
	if truths := impl.Truths(p, steps(0, 0), list); len(truths) != 0 {
		t.Errorf("%s: %v has the truths %v", what, list, truths)
	}
}

// looker returns a machine in which all that can be looked at is another number.
func looker() impl.Machine {
	first := withStack(at(3, 7, 9999, 0, 5), 1, 2)
	second := withState(withStack(at(60, 0, 8, 9, 10), 3, 3, 3, 3, 3, 0), 2)
	m := withLocks(withTold(machineOf(first, second), 4), 1, 1)
	m.Cells = []int{20, 21, 22, 23, 24, 25, 26, 9998}
	return m
}

// valued is an expression in words, and its number in a machine; by hand.
type valued struct {
	text string
	want int
}

func lookAtValues(t *testing.T, m impl.Machine, rows []valued) {
	t.Helper()
	for _, row := range rows {
		list := when(t, row.text)
		if !impl.WhenOk(list) {
			t.Errorf("%s is no expression", row.text)
		}
		if got := impl.WhenValue(m, list); got != row.want {
			t.Errorf("the number of %s is %d, want %d", row.text, got, row.want)
		}
		if got := impl.Holds(m, list); got != (row.want != 0) {
			t.Errorf("%s holds: %v", row.text, got)
		}
	}
}

func TestP89NumbersByHand(t *testing.T) {
	lookAtValues(t, looker(), []valued{
		{"number 0", 0}, {"number 1", 1}, {"number 9999", 9999},
		{"reg 0 0", 7}, {"reg 0 1", 9999}, {"reg 0 2", 0}, {"reg 0 3", 5}, {"reg 1 0", 0}, {"reg 1 1", 8}, {"reg 1 3", 10},
		{"cell 0", 20}, {"cell 2", 22}, {"cell 7", 9998},
		{"at 0", 3}, {"at 1", 60}, {"deep 0", 2}, {"deep 1", 6}, {"state 0", 0}, {"state 1", 2}, {"told", 4},
		{"number 3; number 4; less 0 1", 1}, {"number 3; number 4; less 1 0", 0}, {"number 3; less 0 0", 0}, {"number 9999; number 0; less 0 1", 0}, {"number 0; number 9999; less 0 1", 1},
		{"number 3; number 4; same 0 1", 0}, {"number 3; number 3; same 0 1", 1}, {"number 3; same 0 0", 1}, {"number 0; same 0 0", 1}, {"number 3; number 4; same 1 0", 0},
		{"number 2; number 3; and 0 1", 1}, {"number 0; number 3; and 0 1", 0}, {"number 0; number 3; and 1 0", 0}, {"number 0; and 0 0", 0}, {"number 1; number 2; and 0 1", 1},
		{"number 0; not 0", 1}, {"number 1; not 0", 0}, {"number 9999; not 0", 0}, {"number 5; not 0; not 1", 1},
		{"number 1; number 0", 0}, {"number 0; number 1", 1}, {"cell 0; cell 1; cell 2", 22}, {"number 7; number 0; add 0 0; number 0", 0},
		{"at 0; deep 0; less 1 0; told; reg 0 3; less 3 4; and 2 5", 1},
		{"cell 2; number 4; less 1 0", 1}, {"cell 2; number 22; less 1 0; not 2", 1},
	})
	// In the machine at first all that can be looked at is 0.
	lookAtValues(t, impl.MachineNew(), []valued{{"reg 0 0", 0}, {"cell 7", 0}, {"at 0", 0}, {"deep 0", 0}, {"state 0", 0}, {"told", 0}, {"cell 0; told; add 0 1", 0}, {"told; not 0", 1}})
}

func TestP89ThreadsThatAreNotThereYet(t *testing.T) {
	lookAtValues(t, looker(), []valued{
		{"reg 2 0", 0}, {"reg 3 3", 0}, {"at 2", 0}, {"at 3", 0}, {"deep 2", 0}, {"deep 3", 0}, {"state 2", 0}, {"state 3", 0},
		{"at 2; not 0", 1}, {"state 3; state 0; same 0 1", 1}, {"reg 2 1; cell 0; add 0 1", 20}, {"reg 3 0; cell 0; less 0 1", 1},
	})
	p, list, _ := talker(t)
	rows := []struct {
		text string
		want []bool
	}{
		{"at 1", []bool{false, true, true, true, true, true, true, true, true, true}},
		{"reg 1 2; number 5; same 0 1", []bool{false, false, true, true, true, true, true, true, true, true}},
		{"deep 1", []bool{false, false, false, false, false, true, true, true, true, true}},
		{"at 3; not 0", []bool{true, true, true, true, true, true, true, true, true, true}},
	}
	for _, row := range rows {
		if got := impl.Truths(p, list, when(t, row.text)); !slices.Equal(got, row.want) {
			t.Errorf("the truths of %s are %v, want %v", row.text, got, row.want)
		}
	}
}

func TestP89SumsThatAreGreat(t *testing.T) {
	lookAtValues(t, looker(), []valued{
		{"number 9999; add 0 0", 9998}, {"reg 0 1; reg 0 1; add 0 1", 9998}, {"cell 7; number 2; add 0 1", 0}, {"cell 7; number 1; add 0 1", 9999}, {"cell 7; number 3; add 1 0", 1},
		{"number 5000; add 0 0", 0}, {"number 5000; add 0 0; not 1", 1}, {"number 5000; number 4999; add 0 1", 9999}, {"number 5000; number 5001; add 0 1", 1},
		{"number 0; number 9999; add 0 1", 9999}, {"number 9999; number 1; add 0 1; number 1; less 2 3", 1}, {"number 5000; add 0 0; and 1 1", 0},
		// Products would be 0 here, too.
		{"number 100; and 0 0", 1}, {"number 5000; number 2; and 0 1", 1}, {"number 2500; number 4; and 1 0", 1},
	})
	list := []impl.Part{{A: 1}}
	want := 1
	for k := 1; k < 20; k++ {
		list = append(list, impl.Part{Kind: impl.PartAdd, A: k - 1, B: k - 1})
		want = want * 2 % 10000
		if got := impl.WhenValue(impl.Machine{}, list); got != want {
			t.Errorf("doubled %d times 1 is %d, want %d", k, got, want)
		}
	}
}

func TestP89NumbersThatAreNone(t *testing.T) {
	for _, n := range []int{math.MinInt, -10000, -9999, -1, 10000, 10001, 19999, math.MaxInt} {
		m := impl.Machine{Threads: []impl.Thread{{At: n, State: n, Regs: []int{n, n, n, n}}}, Cells: []int{n, n, n, n, n, n, n, n}}
		lookAtValues(t, m, []valued{
			{"at 0", 0}, {"state 0", 0}, {"reg 0 0", 0}, {"reg 0 3", 0}, {"cell 0", 0}, {"cell 7", 0},
			{"at 0; not 0", 1}, {"cell 3; number 9999; add 0 1", 9999}, {"reg 0 1; number 0; less 0 1", 0}, {"reg 0 1; number 0; same 0 1", 1},
		})
	}
	odd := impl.Machine{Threads: []impl.Thread{{At: 9999, State: 9999, Regs: []int{9999}}, {At: 77, State: 3}}, Cells: []int{1, 9999}}
	lookAtValues(t, odd, []valued{
		{"at 0", 9999}, {"state 0", 9999}, {"reg 0 0", 9999}, {"reg 0 1", 0}, {"reg 0 3", 0}, {"reg 1 0", 0}, {"reg 1 3", 0},
		{"at 1", 77}, {"state 1", 3}, {"cell 1", 9999}, {"cell 2", 0}, {"cell 7", 0}, {"deep 0", 0}, {"told", 0},
	})
	lookAtValues(t, impl.Machine{}, []valued{{"at 0", 0}, {"state 0", 0}, {"reg 0 0", 0}, {"deep 0", 0}, {"cell 0", 0}, {"told", 0}, {"number 8", 8}, {"cell 0; not 0", 1}})
	for _, row := range [][2]int{{0, 0}, {1, 1}, {6, 6}, {7, 7}, {1000, 1000}, {9998, 9998}, {9999, 9999}, {10000, 0}, {10001, 0}, {20000, 0}} {
		m := impl.Machine{Threads: []impl.Thread{{Stack: make([]int, row[0])}}, Told: make([]int, row[0])}
		lookAtValues(t, m, []valued{{"deep 0", row[1]}, {"told", row[1]}})
	}
	// Of too many threads, registers and cells those that can be told are looked at.
	many := impl.Machine{Threads: make([]impl.Thread, 9), Cells: []int{0, 0, 0, 0, 0, 0, 0, 7, 8, 9}}
	many.Threads[3] = impl.Thread{At: 5, Regs: []int{1, 2, 3, 4, 5, 6}}
	lookAtValues(t, many, []valued{{"at 3", 5}, {"reg 3 3", 4}, {"cell 7", 7}, {"at 2", 0}})
}

func TestP89NumbersAreBelowWordMod(t *testing.T) {
	d := dice{seed: 104}
	seen := map[int]int{}
	for i := 0; i < 20000; i++ {
		m := d.machine(d.program())
		list := d.when(d.manyParts())
		if !whenAsExpected(t, m, list) {
			t.Fatalf("%v is no expression", list)
		}
		n := impl.WhenValue(m, list)
		if n < 0 || n >= 10000 {
			t.Fatalf("the number of %v in %v is %d", list, m, n)
		}
		seen[min(n, 2)]++
	}
	if seen[0] < 2000 || seen[1] < 2000 || seen[2] < 2000 {
		t.Fatalf("how many numbers were 0, 1 and greater: %v", seen)
	}
}

func TestP88ExpressionsByHand(t *testing.T) {
	good := []string{
		"number 0", "number 9999", "reg 0 0", "reg 3 3", "cell 0", "cell 7", "at 0", "at 3", "deep 3", "state 3", "told",
		"told; not 0", "told; add 0 0", "told; less 0 0", "told; same 0 0", "told; and 0 0",
		"told; told; add 1 1", "told; told; less 0 1", "told; told; same 1 0", "told; told; and 1 1", "told; told; not 1",
		"number 1; number 2; number 3",
	}
	for _, text := range good {
		if !impl.WhenOk(when(t, text)) {
			t.Errorf("%s is no expression", text)
		}
	}
	bad := []string{
		"number -1", "number 10000", "number 0 1", "number 0 -1", "reg -1 0", "reg 4 0", "reg 0 -1", "reg 0 4", "reg 4 4", "cell -1", "cell 8", "cell 0 1",
		"at -1", "at 4", "at 0 1", "deep -1", "deep 4", "deep 0 1", "state -1", "state 4", "state 0 1", "told 1", "told -1", "told 0 1",
		"not 0", "add 0 0", "less 0 0", "same 0 0", "and 0 0",
		"told; not 1", "told; not 2", "told; not -1", "told; not 0 1", "told; not 0 -1",
		"told; told; not 0 1", "told; add 0 0; told; number 10000",
	}
	for _, text := range bad {
		noWhen(t, text, when(t, text))
	}
	// What stands at a part itself or behind it is not ahead of it.
	for _, name := range []string{"add", "less", "same", "and"} {
		for _, fields := range []string{"1 0", "0 1", "2 0", "0 2", "-1 0", "0 -1", "1 1", "9 9"} {
			noWhen(t, "parts that stand behind", when(t, "told; "+name+" "+fields+"; told"))
		}
	}
	noWhen(t, "no parts", nil)
	noWhen(t, "no parts, but a list of them", []impl.Part{})
	for _, kind := range []int{math.MinInt, -2, -1, 12, 13, 100, math.MaxInt} {
		noWhen(t, "no kind", []impl.Part{{Kind: kind}})
		noWhen(t, "no kind behind others", []impl.Part{{A: 1}, {A: 2}, {Kind: kind}})
		noWhen(t, "no kind ahead of others", []impl.Part{{Kind: kind}, {A: 2}})
	}
}

func TestP88EachFieldOfEachKind(t *testing.T) {
	numbers := append(fieldsNear(), 6, 17, 18, 19, 20, 21, 9998, 10001)
	ok := 0
	for _, ahead := range []int{0, 1, 2, 5, 18, 19, 20} {
		list := append(make([]impl.Part, ahead), impl.Part{})
		for kind := -2; kind < 14; kind++ {
			for _, a := range numbers {
				for _, b := range numbers {
					list[ahead] = impl.Part{Kind: kind, A: a, B: b}
					if impl.WhenOk(list) != whenExpected(list) {
						t.Fatalf("%v is an expression: %v", list, impl.WhenOk(list))
					}
					ok += numberOf(whenExpected(list))
				}
			}
		}
	}
	if ok < 500 {
		t.Fatalf("only %d were expressions", ok)
	}
}

func TestP88AsManyPartsAsMayBe(t *testing.T) {
	for _, n := range []int{0, 1, 2, 19, 20, 21, 22, 100, 1000} {
		list := make([]impl.Part, n)
		if got := impl.WhenOk(list); got != (n > 0 && n < 21) {
			t.Errorf("%d parts are an expression: %v", n, got)
		}
		if n == 0 || n > 20 {
			noWhen(t, "too many or too few", list)
		}
	}
	last := append(make([]impl.Part, 19), impl.Part{Kind: impl.PartAdd, A: 18, B: 18})
	if !impl.WhenOk(last) {
		t.Error("the last part may be made of the one ahead of it")
	}
}

func TestP88TheFirstPartsAreAnExpression(t *testing.T) {
	d := dice{seed: 105}
	whole, part := 0, 0
	for i := 0; i < 10000; i++ {
		list := d.when(d.manyParts())
		if d.below(2) == 0 {
			list = d.mangledWhen(list)
		}
		if impl.WhenOk(list) != whenExpected(list) {
			t.Fatalf("%v is an expression: %v", list, impl.WhenOk(list))
		}
		if !impl.WhenOk(list) {
			part++
			continue
		}
		whole++
		for k := 1; k <= len(list); k++ {
			if !impl.WhenOk(list[:k]) {
				t.Fatalf("%v is an expression, and its first %d parts are none", list, k)
			}
		}
	}
	if whole < 2000 || part < 1000 {
		t.Fatalf("%d were expressions, and %d were none", whole, part)
	}
}

func TestP88WhatIsBrokenStaysSo(t *testing.T) {
	d := dice{seed: 106}
	for i := 0; i < 3000; i++ {
		list := d.when(d.manyParts())
		k := d.below(len(list))
		list[k].Kind = d.oneOf([]int{-1, 12, math.MaxInt, math.MinInt})
		for n := 1; n <= len(list); n++ {
			if impl.WhenOk(list[:n]) != (n <= k) {
				t.Fatalf("%v is none from part %d on, but its first %d parts are an expression: %v", list, k, n, n > k)
			}
		}
	}
}

// joinedAsTruths fails if promise 16 is broken for two expressions in a machine; it returns whether there is the contrary of both.
func joinedAsTruths(t *testing.T, m impl.Machine, a []impl.Part, b []impl.Part) bool {
	t.Helper()
	holdsA, holdsB := valueExpected(m, a) > 0, valueExpected(m, b) > 0
	if impl.Holds(m, a) != holdsA || impl.Holds(m, b) != holdsB {
		t.Fatalf("in %v %v holds: %v, and %v: %v", m, a, impl.Holds(m, a), b, impl.Holds(m, b))
	}
	notA, notB := impl.WhenNot(a), impl.WhenNot(b)
	if len(notA) > 0 && impl.Holds(m, notA) == holdsA {
		t.Fatalf("%v and its contrary %v hold in %v: %v", a, notA, m, holdsA)
	}
	both := impl.WhenBoth(a, b)
	if !slices.Equal(both, bothExpected(a, b)) {
		t.Fatalf("%v and %v are %v, want %v", a, b, both, bothExpected(a, b))
	}
	if len(both) == 0 {
		return false
	}
	if impl.Holds(m, both) != (holdsA && holdsB) {
		t.Fatalf("in %v %v holds: %v, and %v: %v, and both, %v: %v", m, a, holdsA, b, holdsB, both, impl.Holds(m, both))
	}
	notBoth := impl.WhenNot(both)
	if len(notBoth) == 0 {
		return false
	}
	if impl.Holds(m, notBoth) != (impl.Holds(m, notA) || impl.Holds(m, notB)) {
		t.Fatalf("in %v it is not both %v and %v: %v", m, a, b, impl.Holds(m, notBoth))
	}
	return true
}

func TestP16TruthsByHand(t *testing.T) {
	m := looker()
	rows := []struct {
		text  string
		holds bool
	}{
		{"number 0", false}, {"number 1", true}, {"number 9999", true}, {"number 2", true}, {"cell 7", true}, {"reg 0 2", false}, {"at 3", false},
		{"number 5000; add 0 0", false}, {"number 100", true}, {"number 0; not 0", true}, {"number 7; not 0", false}, {"told; number 4; same 0 1", true}, {"told; number 4; less 0 1", false},
	}
	for _, one := range rows {
		a := when(t, one.text)
		if impl.Holds(m, a) != one.holds || impl.Holds(m, impl.WhenNot(a)) == one.holds {
			t.Errorf("%s holds: %v, and its contrary: %v", one.text, impl.Holds(m, a), impl.Holds(m, impl.WhenNot(a)))
		}
		for _, two := range rows {
			both := impl.WhenBoth(a, when(t, two.text))
			if impl.Holds(m, both) != (one.holds && two.holds) {
				t.Errorf("both %s and %s hold: %v", one.text, two.text, impl.Holds(m, both))
			}
			if impl.Holds(m, impl.WhenNot(both)) != (!one.holds || !two.holds) {
				t.Errorf("not both %s and %s hold: %v", one.text, two.text, impl.Holds(m, impl.WhenNot(both)))
			}
		}
	}
}

// smallWhens returns all expressions of one and two parts, and many of three, over few numbers, registers and cells.
func smallWhens() [][]impl.Part {
	looks := []impl.Part{{A: 0}, {A: 1}, {A: 5000}, {Kind: impl.PartCell, A: 1}, {Kind: impl.PartAt, A: 1}, {Kind: impl.PartReg, A: 0, B: 1}}
	out := [][]impl.Part{}
	for _, x := range looks {
		out = append(out, []impl.Part{x})
	}
	for k := 0; k < len(out) && len(out[k]) < 3; k++ {
		ahead := len(out[k])
		more := []impl.Part{}
		if ahead == 1 {
			more = append(more, looks...)
		}
		for kind := impl.PartAdd; kind <= impl.PartNot; kind++ {
			more = append(more, impl.Part{Kind: kind, A: ahead - 1})
		}
		for _, x := range more {
			out = append(out, append(append([]impl.Part{}, out[k]...), x))
		}
	}
	return out
}

func TestP16EachTwoSmallExpressions(t *testing.T) {
	machines := []impl.Machine{impl.MachineNew(), withCell(machineOf(at(0, 0, 5000), at(1)), 1, 1), {}}
	all := smallWhens()
	for _, m := range machines {
		for _, a := range all {
			for _, b := range all {
				if !joinedAsTruths(t, m, a, b) {
					t.Fatalf("there is no contrary of both %v and %v", a, b)
				}
			}
		}
	}
	if len(all) < 200 {
		t.Fatalf("there were only %d expressions", len(all))
	}
}

func TestP16JoinedAsTruths(t *testing.T) {
	d := dice{seed: 107}
	seen := map[[2]bool]int{}
	none := 0
	for i := 0; i < 20000; i++ {
		m := d.machine(d.program())
		a, b := d.when(d.manyParts()), d.when(d.manyParts())
		if !joinedAsTruths(t, m, a, b) {
			none++
			continue
		}
		seen[[2]bool{impl.Holds(m, a), impl.Holds(m, b)}]++
	}
	if len(seen) != 4 || none < 1000 {
		t.Fatalf("what held and what did not: %v; too many parts: %d", seen, none)
	}
	for truths, n := range seen {
		if n < 1000 {
			t.Errorf("that the truths were %v was so only %d times", truths, n)
		}
	}
}

// joinedUp returns an expression that is joined out of others again and again, as long as there is room.
func joinedUp(t *testing.T, d *dice, m impl.Machine) ([]impl.Part, bool) {
	t.Helper()
	list := d.when(1 + d.below(3))
	holds := impl.Holds(m, list)
	for k := 0; k < 30; k++ {
		more := d.when(1 + d.below(3))
		next := impl.WhenNot(list)
		now := !holds
		if d.below(2) == 0 {
			next = impl.WhenBoth(list, more)
			now = holds && impl.Holds(m, more)
		} else if d.below(2) == 0 {
			next = impl.WhenBoth(more, list)
			now = holds && impl.Holds(m, more)
		}
		if len(next) == 0 {
			break
		}
		list, holds = next, now
	}
	return list, holds
}

func TestP16JoinedAgainAndAgain(t *testing.T) {
	d := dice{seed: 108}
	full, held := 0, 0
	for i := 0; i < 5000; i++ {
		m := d.machine(d.program())
		list, holds := joinedUp(t, &d, m)
		whenAsExpected(t, m, list)
		if impl.Holds(m, list) != holds {
			t.Fatalf("%v holds in %v: %v", list, m, !holds)
		}
		full += numberOf(len(list) == 20)
		held += numberOf(holds)
	}
	if full < 500 || held < 500 || held > 4500 {
		t.Fatalf("%d expressions had 20 parts, and %d held", full, held)
	}
}

func TestP90HoldsByTheMachineAlone(t *testing.T) {
	d := dice{seed: 109}
	for i := 0; i < 5000; i++ {
		m := d.machine(d.program())
		same := roomyMachine(m)
		list := d.when(d.manyParts())
		value, holds := impl.WhenValue(m, list), impl.Holds(m, list)
		other := d.machine(d.program())
		impl.WhenValue(other, list)
		impl.Holds(other, d.when(3))
		if impl.WhenValue(same, list) != value || impl.Holds(same, list) != holds || impl.WhenValue(m, list) != value {
			t.Fatalf("%v has the number %d in %v, and then another one", list, value, m)
		}
	}
}

func TestP90TheSameMachineByAnotherWay(t *testing.T) {
	// Two threads store the same in cells of their own, first one, then the other one, by two programs.
	p := program(t, -1, "begin 1", "set 1 4", "store 1 2 3", "jump 2")
	q := program(t, -1, "begin 1", "set 1 4", "store 1 2 3", "ret")
	one := steps(0, 1, 1, 0, 0)
	two := steps(0, 0, 1, 0, 1)
	end := len(one)
	if !impl.SameMachine(impl.Machines(p, one)[end], impl.Machines(q, two)[end]) {
		t.Fatal("the runs do not come to the same")
	}
	d := dice{seed: 110}
	held := 0
	for i := 0; i < 3000; i++ {
		list := d.when(d.manyParts())
		by, other := impl.Truths(p, one, list), impl.Truths(q, two, list)
		if by[end] != other[end] || by[0] != other[0] {
			t.Fatalf("%v is %v by one way, and %v by the other one", list, by, other)
		}
		held += numberOf(by[end])
	}
	if held < 300 || held > 2700 {
		t.Fatalf("%d of 3000 expressions held", held)
	}
	goes := program(t, -1, "jump 1", "jump 0")
	for i := 0; i < 200; i++ {
		truths := impl.Truths(goes, make([]impl.Choice, 300), d.when(d.manyParts()))
		for k := 2; k < len(truths); k++ {
			if truths[k] != truths[k-2] {
				t.Fatalf("at %d and two places ahead there is the same machine, and the truths are %v", k, truths)
			}
		}
	}
}

func TestP90WhatIsNotLookedAtIsNothing(t *testing.T) {
	m := looker()
	list := when(t, "reg 0 1; cell 2; add 0 1; at 1; add 2 3; deep 0; add 4 5; state 1; add 6 7; told; add 8 9")
	was := impl.WhenValue(m, list)
	if was != 89 {
		t.Errorf("the sum of all is %d", was)
	}
	other := withLocks(clone(m), -1, 0)
	for _, k := range []int{0, 1, 3, 4, 5, 6, 7} {
		other.Cells[k] = 9000 + k
	}
	other.Told = []int{5, 6, 7, 8}
	other.Threads[0] = withState(withStack(at(9, 1, 9999, 2, 3), 7, 8), 1)
	other.Threads[1].Regs = []int{5, 5, 5, 5}
	other.Threads[1].Stack = nil
	other.Threads = append(other.Threads, at(4, 4, 4, 4, 4))
	if got := impl.WhenValue(other, list); got != was {
		t.Errorf("what is not looked at makes the number %d, want %d", got, was)
	}
	changes := []impl.Machine{clone(m), clone(m), clone(m), clone(m), clone(m), clone(m)}
	changes[0].Threads[0].Regs[1] = 0
	changes[1].Threads[1].At = 9999
	changes[2].Threads[0].Stack = make([]int, 9999)
	changes[3].Threads[1].State = 0
	changes[4].Told = nil
	changes[5].Cells[2] = 50
	for k, x := range changes {
		if got, want := impl.WhenValue(x, list), valueExpected(x, list); got != want || got == was {
			t.Errorf("change %d of what is looked at makes the number %d, want %d", k, got, want)
		}
	}
}

func TestP91EitherItHoldsOrItsContrary(t *testing.T) {
	d := dice{seed: 111}
	held, not, full := 0, 0, 0
	for i := 0; i < 20000; i++ {
		m := d.machine(d.program())
		if d.below(4) == 0 {
			m = d.anyMachine()
		}
		list := d.when(d.manyParts())
		contrary := impl.WhenNot(list)
		if len(list) == 20 {
			full++
			if len(contrary) != 0 || impl.Holds(m, contrary) {
				t.Fatalf("20 parts have a contrary: %v", contrary)
			}
			continue
		}
		if !impl.WhenOk(contrary) || impl.Holds(m, list) == impl.Holds(m, contrary) {
			t.Fatalf("in %v %v and %v hold: %v and %v", m, list, contrary, impl.Holds(m, list), impl.Holds(m, contrary))
		}
		if n := impl.WhenValue(m, contrary); n != numberOf(!impl.Holds(m, list)) {
			t.Fatalf("the number of the contrary of %v in %v is %d", list, m, n)
		}
		if again := impl.WhenNot(contrary); len(list) < 19 && impl.Holds(m, again) != impl.Holds(m, list) {
			t.Fatalf("the contrary of the contrary of %v is %v", list, again)
		}
		held += numberOf(impl.Holds(m, list))
		not += numberOf(impl.Holds(m, contrary))
	}
	if held < 3000 || not < 3000 || full < 300 {
		t.Fatalf("%d held, of %d the contrary did, and %d were full", held, not, full)
	}
}

func TestP91ContrariesByHand(t *testing.T) {
	rows := [][2]string{
		{"told", "told; not 0"},
		{"told; not 0", "told; not 0; not 1"},
		{"number 3; reg 2 1; less 0 1", "number 3; reg 2 1; less 0 1; not 2"},
		{"number 1; number 0", "number 1; number 0; not 1"},
	}
	for _, row := range rows {
		if got, want := impl.WhenNot(when(t, row[0])), when(t, row[1]); !slices.Equal(got, want) {
			t.Errorf("the contrary of %s is %v, want %v", row[0], got, want)
		}
	}
	for n := 0; n < 25; n++ {
		got := impl.WhenNot(make([]impl.Part, n))
		if n > 0 && n < 20 && (len(got) != n+1 || !impl.WhenOk(got) || !impl.Holds(impl.Machine{}, got)) {
			t.Errorf("the contrary of %d parts is %v", n, got)
		}
		if (n == 0 || n >= 20) && len(got) != 0 {
			t.Errorf("%d parts have a contrary: %v", n, got)
		}
	}
}

func TestP92BothByHand(t *testing.T) {
	rows := [][3]string{
		{"told", "cell 1", "told; cell 1; and 0 1"},
		{"cell 1", "told", "cell 1; told; and 0 1"},
		{"told", "told", "told; told; and 0 1"},
		{"told; not 0", "cell 3; not 0", "told; not 0; cell 3; not 2; and 1 3"},
		{"at 1; deep 2; state 3", "number 3; reg 3 3; cell 3; at 3; deep 3; state 3; told", "at 1; deep 2; state 3; number 3; reg 3 3; cell 3; at 3; deep 3; state 3; told; and 2 9"},
		{"told; told", "number 1; number 2; add 0 1; less 2 0; same 1 3; and 4 2; not 5", "told; told; number 1; number 2; add 2 3; less 4 2; same 3 5; and 6 4; not 7; and 1 8"},
		{"number 1; number 2; add 0 1", "number 1; add 0 0; not 1", "number 1; number 2; add 0 1; number 1; add 3 3; not 4; and 2 5"},
		{"told; and 0 0", "told; and 0 0", "told; and 0 0; told; and 2 2; and 1 3"},
	}
	for _, row := range rows {
		if got, want := impl.WhenBoth(when(t, row[0]), when(t, row[1])), when(t, row[2]); !slices.Equal(got, want) {
			t.Errorf("%s and %s are\n%v, want\n%v", row[0], row[1], got, want)
		}
	}
}

func TestP92AsManyPartsAsMayBe(t *testing.T) {
	for a := 0; a < 25; a++ {
		for b := 0; b < 25; b++ {
			got := impl.WhenBoth(make([]impl.Part, a), make([]impl.Part, b))
			want := 0
			if a > 0 && b > 0 && a+b < 20 {
				want = a + b + 1
			}
			if len(got) != want || want > 0 && !impl.WhenOk(got) {
				t.Errorf("%d and %d parts are %v, want %d", a, b, got, want)
			}
		}
	}
	for _, n := range []int{21, 100, 1000} {
		if got := impl.WhenBoth(make([]impl.Part, n), make([]impl.Part, n)); len(got) != 0 {
			t.Errorf("twice %d parts are %v", n, got)
		}
	}
}

func TestP92BothAreAnExpression(t *testing.T) {
	d := dice{seed: 112}
	made, none := 0, 0
	for i := 0; i < 10000; i++ {
		m := d.machine(d.program())
		a, b := d.when(d.manyParts()), d.when(d.manyParts())
		both := impl.WhenBoth(a, b)
		if len(a)+len(b) > 19 {
			none++
			if len(both) != 0 {
				t.Fatalf("%d and %d parts are %v", len(a), len(b), both)
			}
			continue
		}
		made++
		if len(both) != len(a)+len(b)+1 || !impl.WhenOk(both) {
			t.Fatalf("%v and %v are no expression: %v", a, b, both)
		}
		if !slices.Equal(both[:len(a)], a) {
			t.Fatalf("%v does not begin with %v", both, a)
		}
		// With its indexes moved each part of the second one has the number that it had.
		for k := 1; k <= len(b); k++ {
			if got, want := impl.WhenValue(m, both[:len(a)+k]), impl.WhenValue(m, b[:k]); got != want {
				t.Fatalf("part %d of %v has the number %d in %v of %v, want %d", k-1, b, got, both, m, want)
			}
		}
		if turned := impl.WhenBoth(b, a); impl.Holds(m, turned) != impl.Holds(m, both) {
			t.Fatalf("%v and %v hold in %v: %v, and the other way round: %v", a, b, m, impl.Holds(m, both), impl.Holds(m, turned))
		}
	}
	if made < 3000 || none < 1000 {
		t.Fatalf("%d were made one, and %d were too many", made, none)
	}
}

func TestP93TruthsByHand(t *testing.T) {
	p, list, machines := talker(t)
	rows := []struct {
		text string
		want string
	}{
		{"number 0", "0000000000"},
		{"number 1", "1111111111"},
		{"at 0", "0111111111"},
		{"at 0; number 4; same 0 1", "0000110000"},
		{"reg 0 1; number 42; same 0 1", "0001111111"},
		{"cell 3", "0000001111"},
		{"cell 3; not 0", "1111110000"},
		{"told", "0000000111"},
		{"told; number 1; same 0 1", "0000000100"},
		{"number 1; told; less 0 1", "0000000011"},
		{"state 0", "0000000001"},
		{"state 0; number 2; same 0 1", "0000000001"},
		{"deep 1; at 1; number 5; same 1 2; and 0 3", "0000011000"},
	}
	for _, row := range rows {
		truths := impl.Truths(p, list, when(t, row.text))
		got := ""
		for _, so := range truths {
			got += strconv.Itoa(numberOf(so))
		}
		if got != row.want {
			t.Errorf("the truths of %s are %s, want %s", row.text, got, row.want)
		}
		for k, so := range truths {
			if so != impl.Holds(machines[k], when(t, row.text)) {
				t.Errorf("at %d the truth of %s is %v", k, row.text, so)
			}
		}
	}
}

func TestP93OneTruthForEachMachine(t *testing.T) {
	d := dice{seed: 113}
	held, not := 0, 0
	for i := 0; i < 300; i++ {
		p := d.lively()
		if d.below(3) == 0 {
			p = d.program()
		}
		list := d.longRun(p, d.oneOf([]int{0, 1, 2, 10, 60, 300}))
		x := d.when(d.manyParts())
		truths := impl.Truths(p, list, x)
		machines := impl.Machines(p, list)
		if len(truths) != len(list)+1 || len(truths) != len(machines) {
			t.Fatalf("%d choices have %d truths", len(list), len(truths))
		}
		for k, m := range machines {
			if truths[k] != impl.Holds(m, x) {
				t.Fatalf("at %d of %v of %v the truth of %v is %v", k, list, p, x, truths[k])
			}
			held += numberOf(truths[k])
			not += numberOf(!truths[k])
		}
		k := d.below(len(list) + 1)
		if short := impl.Truths(p, list[:k], x); !slices.Equal(short, truths[:k+1]) {
			t.Fatalf("the first %d choices of %v have the truths %v, want %v", k, list, short, truths[:k+1])
		}
		truthsAsExpected(t, p, list, x)
	}
	if held < 1000 || not < 1000 {
		t.Fatalf("%d held, and %d did not", held, not)
	}
}

func TestP93NoTruthsOfWhatIsNoRun(t *testing.T) {
	p, list, _ := talker(t)
	jumps := program(t, -1, "jump 0")
	one := []impl.Part{{A: 1}}
	for _, n := range []int{0, 1, 299, 300, 301, 302, 1000} {
		want := n + 1
		if n > 300 {
			want = 0
		}
		if got := impl.Truths(jumps, make([]impl.Choice, n), one); len(got) != want {
			t.Errorf("%d choices have %d truths, want %d", n, len(got), want)
		}
	}
	rows := [][]impl.Choice{
		joined(steps(2), list...), joined(list, impl.Choice{}), slices.Concat(list[:4], steps(3), list[4:]),
		{{Reply: 1}}, {{Kind: 2}}, {{Kind: -1}}, {{Who: -1}}, {{Who: math.MaxInt}},
	}
	for _, row := range rows {
		if got := impl.Truths(p, row, one); len(got) != 0 {
			t.Errorf("%v is no run, and has the truths %v", row, got)
		}
	}
	for _, bad := range brokenPrograms() {
		for _, row := range [][]impl.Choice{nil, steps(0)} {
			if got := impl.Truths(bad, row, one); len(got) != 0 {
				t.Errorf("%v is no program, and has the truths %v", bad, got)
			}
		}
	}
	for _, bad := range [][]impl.Part{nil, {{A: -1}}, {{A: 10000}}, {{Kind: 12}}, {{}, {Kind: impl.PartNot, A: 1}}, make([]impl.Part, 21), make([]impl.Part, 1000)} {
		if got := impl.Truths(p, list, bad); len(got) != 0 {
			t.Errorf("%v is no expression, and has the truths %v", bad, got)
		}
	}
}

// anyWhen returns parts that are an expression, are nearly one, or are whatever.
func (d *dice) anyWhen() []impl.Part {
	switch d.below(4) {
	case 0:
		return d.mangledWhen(d.when(d.manyParts()))
	case 1:
		out := []impl.Part{}
		for k := d.oneOf([]int{0, 1, 2, 3, 20, 21, 1000}); k > 0; k-- {
			out = append(out, impl.Part{Kind: d.below(14) - 1, A: d.oneOf(fieldsNear()), B: d.oneOf(fieldsNear())})
		}
		return out
	}
	return d.when(d.manyParts())
}

func TestP171OverWhateverMachinesAndParts(t *testing.T) {
	d := dice{seed: 114}
	good, bad, both := 0, 0, 0
	for i := 0; i < 20000; i++ {
		m := d.mangledMachine(d.machine(d.program()))
		if d.below(4) == 0 {
			m = d.anyMachine()
		}
		a, b := d.anyWhen(), d.anyWhen()
		if whenAsExpected(t, m, a) {
			good++
		} else {
			bad++
		}
		if joinedAsTruths(t, m, a, b) {
			both++
		}
	}
	if good < 5000 || bad < 3000 || both < 2000 {
		t.Fatalf("%d were expressions, %d were none, and of %d two were made one with a contrary", good, bad, both)
	}
}

func TestP171OverWhateverProgramsAndRows(t *testing.T) {
	d := dice{seed: 115}
	good, bad := 0, 0
	for i := 0; i < 1500; i++ {
		p := d.anyProgram()
		list := []impl.Choice{}
		if impl.ProgramOk(p) {
			list = d.longRun(p, d.oneOf([]int{0, 1, 3, 20, 60, 300}))
		}
		if d.below(4) == 0 {
			list = d.mangledRun(list)
		}
		a, b := d.anyWhen(), d.anyWhen()
		if !truthsAsExpected(t, p, list, a) {
			bad++
			continue
		}
		good++
		notA, byB := impl.Truths(p, list, impl.WhenNot(a)), impl.Truths(p, list, b)
		byBoth := impl.Truths(p, list, impl.WhenBoth(a, b))
		for k, so := range impl.Truths(p, list, a) {
			if len(notA) > 0 && notA[k] == so {
				t.Fatalf("at %d of %v of %v %v and its contrary are %v", k, list, p, a, so)
			}
			if len(byBoth) > 0 && byBoth[k] != (so && byB[k]) {
				t.Fatalf("at %d of %v of %v both %v and %v are %v", k, list, p, a, b, byBoth[k])
			}
		}
	}
	if good < 300 || bad < 300 {
		t.Fatalf("%d had truths, and %d had none", good, bad)
	}
}

// roomyParts returns parts with room behind their end in which a write would be seen.
func roomyParts(list []impl.Part) []impl.Part {
	out := append(make([]impl.Part, 0, len(list)+3), list...)
	spare := out[len(out):cap(out)]
	for k := range spare {
		spare[k] = impl.Part{Kind: -77, A: -78, B: -79}
	}
	return out
}

// partsUnharmed reports whether parts and the room behind them are as roomyParts left them.
func partsUnharmed(list []impl.Part, was []impl.Part) bool {
	for _, x := range list[len(list):cap(list)] {
		if x != (impl.Part{Kind: -77, A: -78, B: -79}) {
			return false
		}
	}
	return slices.Equal(list, was)
}

// scrawled writes another part into all of each list and its room.
func scrawled(lists ...[]impl.Part) {
	for i, list := range lists {
		all := list[:cap(list)]
		for k := range all {
			all[k] = impl.Part{Kind: -100 - i}
		}
	}
}

func TestResultsOfConditionsAreNew(t *testing.T) {
	d := dice{seed: 116}
	for i := 0; i < 5000; i++ {
		was := d.machine(d.program())
		m := roomyMachine(was)
		wasA, wasB := d.anyWhen(), d.anyWhen()
		a, b := roomyParts(wasA), roomyParts(wasB)
		impl.WhenOk(a)
		impl.WhenValue(m, a)
		impl.Holds(m, b)
		made := [][]impl.Part{impl.WhenNot(a), impl.WhenNot(a), impl.WhenBoth(a, b), impl.WhenBoth(a, b), impl.WhenBoth(a, a)}
		scrawled(made...)
		for k, list := range made {
			for _, x := range list[:cap(list)] {
				if x != (impl.Part{Kind: -100 - k}) {
					t.Fatalf("results of %v and %v share memory", wasA, wasB)
				}
			}
		}
		if !unharmed(m, was) || !partsUnharmed(a, wasA) || !partsUnharmed(b, wasB) {
			t.Fatalf("%v, %v or %v was written to, or shares memory with a result", was, wasA, wasB)
		}
	}
}

func TestResultsOfTruthsAreNew(t *testing.T) {
	d := dice{seed: 117}
	for i := 0; i < 200; i++ {
		p := d.lively()
		rows := append([]impl.Code{}, p.Rows...)
		was := d.run(p, d.oneOf([]int{0, 1, 2, 20}))
		list := append(make([]impl.Choice, 0, len(was)+2), was...)
		copy(list[len(list):cap(list)], steps(-88, -88))
		wasWhen := d.when(d.manyParts())
		x := roomyParts(wasWhen)
		first, second := impl.Truths(p, list, x), impl.Truths(p, list, x)
		want := append([]bool{}, second...)
		for k := range first[:cap(first)] {
			first[:cap(first)][k] = k >= len(second) || !second[k]
		}
		if !slices.Equal(second, want) || !slices.Equal(impl.Truths(p, list, x), want) {
			t.Fatalf("truths of %v of %v share memory", was, p)
		}
		if !slices.Equal(list, was) || !slices.Equal(list[len(list):cap(list)], steps(-88, -88)) || !slices.Equal(p.Rows, rows) || !partsUnharmed(x, wasWhen) {
			t.Fatalf("%v, %v or %v was written to", was, rows, wasWhen)
		}
	}
}

func TestWayOfConditionsIsPartByPart(t *testing.T) {
	// This is no conversion if a part has more than its kind and two numbers.
	_ = struct{ Kind, A, B int }(impl.Part{})
	calls := callsOf(newSource(t))
	for _, way := range [][]string{{"WhenValue", "WhenOk"}, {"Holds", "WhenValue"}, {"Truths", "Machines"}, {"Truths", "Holds"}} {
		if !reaches(calls, way[0], way[1], map[string]bool{}) {
			t.Errorf("%s does not go by %s", way[0], way[1])
		}
	}
	for name := range calls {
		if !reaches(calls, "WhenValue", name, map[string]bool{}) {
			continue
		}
		for _, next := range calls[name] {
			if reaches(calls, next, name, map[string]bool{}) {
				t.Errorf("%s comes to itself again, though parts are made of ones ahead of them", name)
			}
		}
	}
}
