package tests

import (
	"math"
	"math/bits"
	"slices"
	"testing"

	"loop.example/backintime/impl"
)

// markAt returns a mark at a place with a machine that is none of its own.
func markAt(place int) impl.Mark {
	return impl.Mark{At: place}
}

func marksOnly(places ...int) []impl.Mark {
	out := []impl.Mark{}
	for _, place := range places {
		out = append(out, markAt(place))
	}
	return out
}

// noWay fails if anything but the fixed results is returned for marks that are none of a run, or for what is no run.
func noWay(t *testing.T, what string, p impl.Program, list []impl.Choice, marks []impl.Mark) {
	t.Helper()
	if impl.MarksOk(p, list, marks) {
		t.Fatalf("%s: %v are marks", what, marks)
	}
	for _, k := range []int{math.MinInt, -1, 0, 1, 2, len(list) - 1, len(list), len(list) + 1, 300, 301, math.MaxInt} {
		if m, n, ok := impl.Arrive(p, list, marks, k); ok || n != 0 || !isNothing(m) {
			t.Fatalf("%s: one arrives at %d by %v: %v, %d, %v", what, k, marks, m, n, ok)
		}
	}
}

// ways is marks of a run of nine choices, and how many choices are made to come to each place; by hand.
type ways struct {
	what   string
	places []int
	made   []int
}

func waysByHand() []ways {
	return []ways{
		{"no marks", nil, []int{0, 1, 2, 3, 4, 5, 6, 7, 8, 9}},
		{"one at the beginning", []int{0}, []int{0, 1, 2, 3, 4, 5, 6, 7, 8, 9}},
		{"one at the end", []int{9}, []int{0, 1, 2, 3, 4, 5, 6, 7, 8, 0}},
		{"one behind the first choice", []int{1}, []int{0, 0, 1, 2, 3, 4, 5, 6, 7, 8}},
		{"one in the middle", []int{3}, []int{0, 1, 2, 0, 1, 2, 3, 4, 5, 6}},
		{"three", []int{2, 5, 7}, []int{0, 1, 0, 1, 2, 0, 1, 0, 1, 2}},
		{"both ends", []int{0, 9}, []int{0, 1, 2, 3, 4, 5, 6, 7, 8, 0}},
		{"each other place", []int{1, 3, 5, 7, 9}, []int{0, 0, 1, 0, 1, 0, 1, 0, 1, 0}},
		{"every place but the first", []int{1, 2, 3, 4, 5, 6, 7, 8, 9}, []int{0, 0, 0, 0, 0, 0, 0, 0, 0, 0}},
		{"every place", []int{0, 1, 2, 3, 4, 5, 6, 7, 8, 9}, []int{0, 0, 0, 0, 0, 0, 0, 0, 0, 0}},
	}
}

func TestP11WaysByHand(t *testing.T) {
	p, list, machines := talker(t)
	for _, row := range waysByHand() {
		marks := marksAt(machines, row.places...)
		if !impl.MarksOk(p, list, marks) {
			t.Errorf("%s: these are no marks", row.what)
		}
		for k, made := range row.made {
			if m, n, ok := impl.Arrive(p, list, marks, k); !ok || n != made || !equal(m, machines[k]) {
				t.Errorf("%s: at %d: %v, %d, %v, want %v, %d", row.what, k, m, n, ok, machines[k], made)
			}
		}
		for _, k := range []int{math.MinInt, -10, -1, 10, 11, 300, 301, math.MaxInt} {
			if m, n, ok := impl.Arrive(p, list, marks, k); ok || n != 0 || !isNothing(m) {
				t.Errorf("%s: at %d: %v, %d, %v", row.what, k, m, n, ok)
			}
		}
	}
}

// arrives fails if promise 11 is broken for marks of a run at a place.
func arrives(t *testing.T, p impl.Program, list []impl.Choice, marks []impl.Mark, k int) {
	t.Helper()
	want, _ := impl.MachineAt(p, list[:k], k)
	m, n, ok := impl.Arrive(p, list, marks, k)
	if !ok || !equal(m, want) {
		t.Fatalf("by %v one comes behind %d choices of %v of %v to %v, %v, want %v", marks, k, list, p, m, ok, want)
	}
	near := k
	for _, x := range marks {
		if x.At <= k {
			near = k - x.At
		}
	}
	if n != near {
		t.Fatalf("to %d of %v of %v with marks at %v %d choices were made, want %d", k, list, p, placesOf(marks), n, near)
	}
}

func TestP11ByWhateverMarks(t *testing.T) {
	d := dice{seed: 81}
	far := 0
	for i := 0; i < 250; i++ {
		p := d.lively()
		list := d.run(p, d.oneOf([]int{0, 1, 2, 10, 40}))
		machines := machinesExpected(p, list)
		all := []int{}
		for k := range machines {
			all = append(all, k)
		}
		some := d.marks(machines)
		for k := range machines {
			arrives(t, p, list, nil, k)
			arrives(t, p, list, marksAt(machines, all...), k)
			arrives(t, p, list, some, k)
		}
		marksAsExpected(t, p, list, some)
		if len(list) == 40 {
			far++
		}
	}
	if far < 20 {
		t.Fatalf("only %d runs had 40 choices", far)
	}
}

func TestP11EachSetOfMarksOfShortRuns(t *testing.T) {
	for _, p := range smallPrograms(t) {
		for _, list := range eachRun(p, 3) {
			machines := machinesExpected(p, list)
			for set := 0; set < 1<<len(machines); set++ {
				places := []int{}
				for k := range machines {
					if set>>k&1 == 1 {
						places = append(places, k)
					}
				}
				marks := marksAt(machines, places...)
				if !impl.MarksOk(p, list, marks) {
					t.Fatalf("%v are no marks of %v of %v", marks, list, p)
				}
				for k := range machines {
					arrives(t, p, list, marks, k)
				}
			}
		}
	}
}

func TestP11RunsAsLongAsTheyMayBe(t *testing.T) {
	d := dice{seed: 82}
	long := 0
	for i := 0; i < 60; i++ {
		p := d.lively()
		list := d.longRun(p, 300)
		machines := machinesExpected(p, list)
		marks := d.marks(machines)
		for _, k := range []int{0, 1, d.below(len(machines)), len(list) - 1, len(list)} {
			arrives(t, p, list, marks, max(k, 0))
			arrives(t, p, list, nil, max(k, 0))
		}
		if len(list) == 300 {
			long++
		}
	}
	if long < 10 {
		t.Fatalf("only %d runs had 300 choices", long)
	}
}

// spoiltMarks is marks that are none of the run of the talker, and why.
type spoiltMarks struct {
	why   string
	marks []impl.Mark
}

func marksOfNone(machines []impl.Machine) []spoiltMarks {
	end := len(machines) - 1
	alone := func(place int, m impl.Machine) []impl.Mark { return []impl.Mark{{At: place, M: m}} }
	out := []spoiltMarks{
		{"a place past the end", alone(end+1, machines[end])},
		{"a place far past the end", alone(math.MaxInt, machines[end])},
		{"a place below 0", alone(-1, machines[0])},
		{"a place far below 0", alone(math.MinInt, machines[0])},
		{"a place past the end, behind others", append(marksAt(machines, 0, 4, end), alone(end+1, machines[end])...)},
		{"a place below 0, ahead of others", append(alone(-1, machines[0]), marksAt(machines, 0, 4, end)...)},
		{"a place twice", marksAt(machines, 4, 4)},
		{"the first place twice", marksAt(machines, 0, 0)},
		{"the last place twice", marksAt(machines, 2, end, end)},
		{"places the other way round", marksAt(machines, 5, 4)},
		{"all places the other way round", marksAt(machines, 9, 8, 7, 6, 5, 4, 3, 2, 1, 0)},
		{"two places exchanged among others", marksAt(machines, 0, 3, 2, 5)},
		{"no machine", marksOnly(0)},
		{"no machine behind others", append(marksAt(machines, 0, 4), markAt(5))},
		{"no machine ahead of others", append([]impl.Mark{markAt(0)}, marksAt(machines, 4, 5)...)},
		{"1000 marks", make([]impl.Mark, 1000)},
	}
	for k := range machines {
		for other := range machines {
			if other != k {
				out = append(out, spoiltMarks{"the machine of another place", alone(k, machines[other])})
			}
		}
		for _, m := range changedOnce(machines[k]) {
			out = append(out, spoiltMarks{"a machine with another number", alone(k, m)})
		}
	}
	return out
}

func TestP11NoWayByMarksOfNone(t *testing.T) {
	p, list, machines := talker(t)
	for _, row := range marksOfNone(machines) {
		noWay(t, row.why, p, list, row.marks)
		if marksExpected(p, list, row.marks) {
			t.Fatalf("%s: %v are marks", row.why, row.marks)
		}
	}
	// By marks that are fine up to a place one does not even come to a place ahead of the one that is not.
	other := joined(list[:2], impl.Choice{Reply: 43})
	there := machinesExpected(p, other)
	noWay(t, "marks of another run", p, list, marksAt(there, 0, 1, 2, 3))
	if !impl.MarksOk(p, list, marksAt(there, 0, 1, 2)) || !impl.MarksOk(p, other, marksAt(there, 3)) {
		t.Fatal("marks of what both runs have are no marks")
	}
	noWay(t, "a mark behind a shorter run", p, list[:4], marksAt(machines, 5))
	noWay(t, "marks of another program", program(t, -1, "ask 1", "jump 0"), steps(0, 0), marksAt(machines, 0, 1))
}

func TestP11NoWayOfWhatIsNoRun(t *testing.T) {
	p, list, machines := talker(t)
	jumps := program(t, -1, "jump 0")
	first := []impl.Mark{{At: 0, M: impl.MachineNew()}}
	for _, marks := range [][]impl.Mark{nil, {}, first, marksAt(machines, 0, 4)} {
		noWay(t, "a choice that can not be made, ahead", p, joined(steps(2), list...), marks)
		noWay(t, "a choice that can not be made, behind", p, joined(list, impl.Choice{}), marks)
		noWay(t, "301 choices", jumps, make([]impl.Choice, 301), marks)
		noWay(t, "1000 choices", jumps, make([]impl.Choice, 1000), marks)
		for _, bad := range brokenPrograms() {
			noWay(t, "what is no program", bad, nil, marks)
			noWay(t, "what is no program, with a choice", bad, steps(0), marks)
		}
	}
	long := make([]impl.Choice, 300)
	if m, n, ok := impl.Arrive(jumps, long, nil, 300); !ok || n != 300 || !equal(m, machineOf(at(0))) {
		t.Fatalf("300 choices lead to %v, %d, %v", m, n, ok)
	}
	if m, n, ok := impl.Arrive(jumps, nil, nil, 0); !ok || n != 0 || !equal(m, machineOf(at(0))) {
		t.Fatalf("no choices lead to %v, %d, %v", m, n, ok)
	}
}

func TestP12KeptByHand(t *testing.T) {
	rows := []struct {
		at   int
		now  int
		kept bool
	}{
		{0, 0, true}, {0, 1, true}, {0, 300, true}, {0, math.MaxInt, true}, {1, 1, true}, {300, 300, true}, {math.MaxInt, math.MaxInt, true},
		{9, 20, false}, {12, 20, true}, {16, 20, true}, {19, 20, true}, {15, 20, false}, {14, 20, true}, {10, 20, false},
		{1, 4, true}, {1, 5, false}, {1, 6, false}, {2, 9, true}, {2, 10, false}, {3, 6, true}, {3, 7, false},
		{4, 19, true}, {4, 20, false}, {6, 13, true}, {6, 14, false}, {8, 39, true}, {8, 40, false}, {64, 319, true}, {64, 320, false},
		{96, 223, true}, {96, 224, false}, {256, 1279, true}, {256, 1280, false},
		{-1, 0, false}, {-1, -1, false}, {0, -1, false}, {-4, 4, false}, {-1, 1, false}, {1, 0, false}, {2, 1, false}, {8, 7, false}, {1, -1, false},
		{math.MinInt, math.MinInt, false}, {math.MinInt, 0, false}, {0, math.MinInt, false}, {math.MinInt, math.MaxInt, false}, {math.MaxInt, 0, false}, {math.MaxInt, math.MinInt, false}, {math.MaxInt, math.MaxInt - 1, false},
		{1, math.MaxInt, false}, {math.MaxInt - 1, math.MaxInt, true}, {math.MaxInt - 3, math.MaxInt, true}, {math.MaxInt - 4, math.MaxInt, false},
		{1 << 59, math.MaxInt, false}, {1 << 60, math.MaxInt, false}, {1 << 61, math.MaxInt, true}, {1 << 62, math.MaxInt, true}, {3 << 60, math.MaxInt, false}, {3 << 61, math.MaxInt, true},
		{7 << 60, math.MaxInt, true}, {1 << 60, 5<<60 - 1, true}, {1 << 60, 5 << 60, false}, {1 << 61, 1<<61 + 1, true},
	}
	for _, row := range rows {
		if impl.Kept(row.at, row.now) != row.kept {
			t.Errorf("at %d it is kept at %d: %v", row.at, row.now, !row.kept)
		}
	}
}

func TestP12WhatIsNotKeptIsNeverKeptAgain(t *testing.T) {
	kept, gone := 0, 0
	for at := 0; at <= 700; at++ {
		was := true
		for now := at; now <= 3000; now++ {
			is := impl.Kept(at, now)
			if is != keptExpected(at, now) {
				t.Fatalf("at %d it is kept at %d: %v", at, now, is)
			}
			if is && !was {
				t.Fatalf("at %d it is kept at %d, and was not ahead of that", at, now)
			}
			if is {
				kept++
			} else {
				gone++
			}
			was = is
		}
	}
	if kept < 10000 || gone < 10000 {
		t.Fatalf("%d times it was kept, and %d times not", kept, gone)
	}
}

// number returns any number: small, at an edge, or such as many powers of 2 divide.
func (d *dice) number() int {
	switch d.below(4) {
	case 0:
		return d.below(1000)
	case 1:
		return d.oneOf(fieldsNear())
	case 2:
		return (d.below(2147483647)<<31 | d.below(2147483647)) >> d.below(62)
	}
	return d.below(8)<<d.below(62) + d.oneOf([]int{-1, 0, 0, 0, 1})
}

func TestP167OverWhateverNumbers(t *testing.T) {
	d := dice{seed: 83}
	kept, gone := 0, 0
	for i := 0; i < 300000; i++ {
		at, now := d.number(), d.number()
		if d.below(2) == 0 {
			now = at + d.number()
		}
		is := impl.Kept(at, now)
		if is != keptExpected(at, now) {
			t.Fatalf("at %d it is kept at %d: %v", at, now, is)
		}
		if at < 0 || at >= now {
			continue
		}
		between := at + 1 + d.below(2147483647)%(now-at)
		for _, ahead := range []int{at, at + 1, between, now - 1} {
			if is && !impl.Kept(at, ahead) {
				t.Fatalf("at %d it is kept at %d, and was not at %d", at, now, ahead)
			}
		}
		if is {
			kept++
		} else {
			gone++
		}
	}
	if kept < 20000 || gone < 20000 {
		t.Fatalf("%d times it was kept, and %d times not", kept, gone)
	}
}

func TestP13PlacesByHand(t *testing.T) {
	rows := []struct {
		many   int
		places []int
	}{
		{0, []int{0}},
		{1, []int{0, 1}},
		{4, []int{0, 1, 2, 3, 4}},
		{5, []int{0, 2, 3, 4, 5}},
		{7, []int{0, 2, 4, 5, 6, 7}},
		{9, []int{0, 2, 4, 6, 7, 8, 9}},
		{10, []int{0, 4, 6, 7, 8, 9, 10}},
		{20, []int{0, 8, 12, 14, 16, 17, 18, 19, 20}},
		{300, []int{0, 64, 128, 192, 224, 240, 256, 272, 280, 288, 292, 294, 296, 297, 298, 299, 300}},
	}
	p := program(t, -1, "ask 0", "add 1 0", "jump 0")
	for _, row := range rows {
		list := make([]impl.Choice, row.many)
		for k := 0; k < row.many; k += 3 {
			list[k].Reply = k + 1
		}
		want := marksAt(machinesExpected(p, list), row.places...)
		if got := impl.MarksThin(p, list); !sameMarks(got, want) {
			t.Errorf("of %d choices marks are kept at %v, want %v", row.many, placesOf(got), row.places)
		}
	}
}

// fewAndNear fails if promise 13 is broken for places at which marks of a run of so many choices are kept.
func fewAndNear(t *testing.T, places []int, n int) {
	t.Helper()
	doublings := max(bits.Len(uint(n))-1, 0)
	if len(places) > 4*doublings+4 || !ascends(places) || len(places) == 0 || places[0] != 0 || places[len(places)-1] != n {
		t.Fatalf("of %d choices marks are kept at %v", n, places)
	}
	for i, place := range places {
		behind := n
		if i+1 < len(places) {
			behind = places[i+1] - 1
		}
		if behind-place > n-behind {
			t.Fatalf("of %d choices, %d is farther behind %d than from the end; marks are kept at %v", n, behind, place, places)
		}
	}
}

func TestP13FewAreKeptAndOneIsNear(t *testing.T) {
	jumps := program(t, -1, "jump 0")
	for n := 0; n <= 300; n++ {
		list := make([]impl.Choice, n)
		marks := impl.MarksThin(jumps, list)
		fewAndNear(t, placesOf(marks), n)
		if !slices.Equal(placesOf(marks), keptPlaces(n)) || !impl.MarksOk(jumps, list, marks) {
			t.Fatalf("of %d choices marks are kept at %v, want %v", n, placesOf(marks), keptPlaces(n))
		}
	}
	for n := 0; n <= 3000; n++ {
		places := []int{}
		for at := -1; at <= n+1; at++ {
			if impl.Kept(at, n) {
				places = append(places, at)
			}
		}
		fewAndNear(t, places, n)
	}
}

func TestP13OnlyWhatWasKeptIsKeptWhenOneMoreIsMade(t *testing.T) {
	d := dice{seed: 84}
	for i := 0; i < 10; i++ {
		p := d.lively()
		list := d.run(p, 60)
		was := []impl.Mark{}
		for n := 0; n <= len(list); n++ {
			now := impl.MarksThin(p, list[:n])
			m, _ := impl.MachineAt(p, list, n)
			left := []impl.Mark{}
			for _, x := range impl.MarkPut(was, impl.Mark{At: n, M: m}) {
				if impl.Kept(x.At, n) {
					left = append(left, x)
				}
			}
			if !sameMarks(now, left) {
				t.Fatalf("of %d choices of %v of %v are kept %v, and on the way %v", n, list, p, placesOf(now), placesOf(left))
			}
			was = now
		}
	}
}

func TestP81AMarkLessIsNoHarm(t *testing.T) {
	d := dice{seed: 85}
	less := 0
	for i := 0; i < 200; i++ {
		p := d.lively()
		list := d.run(p, d.oneOf([]int{0, 1, 2, 10, 25}))
		machines := machinesExpected(p, list)
		marks := d.marks(machines)
		for gone := range marks {
			left := append(append([]impl.Mark{}, marks[:gone]...), marks[gone+1:]...)
			if !impl.MarksOk(p, list, marks) || !impl.MarksOk(p, list, left) {
				t.Fatalf("%v or %v are no marks of %v of %v", marks, left, list, p)
			}
			for _, k := range []int{0, marks[gone].At, d.below(len(machines)), len(list)} {
				m, n, ok := impl.Arrive(p, list, marks, k)
				now, more, is := impl.Arrive(p, list, left, k)
				if !ok || !is || !equal(m, now) || !equal(m, machines[k]) || more < n {
					t.Fatalf("at %d of %v of %v: %v, %d, %v, and without the mark at %d: %v, %d, %v", k, list, p, m, n, ok, marks[gone].At, now, more, is)
				}
			}
			less++
		}
	}
	if less < 200 {
		t.Fatalf("only %d marks were left out", less)
	}
}

func TestP81NoMarksAreMarksOfEveryRun(t *testing.T) {
	p, list, machines := talker(t)
	for k := 0; k <= len(list); k++ {
		for _, marks := range [][]impl.Mark{nil, {}} {
			if !impl.MarksOk(p, list[:k], marks) {
				t.Errorf("no marks are none of the first %d choices", k)
			}
		}
		// A mark more, up to all of them.
		if some := marksAt(machines[:k+1], allUpTo(k)...); !impl.MarksOk(p, list, some) || !impl.MarksOk(p, list[:k], some) {
			t.Errorf("marks at %v are none", placesOf(some))
		}
	}
}

// allUpTo returns the numbers from 0 up to one.
func allUpTo(n int) []int {
	out := []int{}
	for k := 0; k <= n; k++ {
		out = append(out, k)
	}
	return out
}

func TestP82MultiplesByHand(t *testing.T) {
	p, list, machines := talker(t)
	rows := []struct {
		every  int
		places []int
	}{
		{1, []int{0, 1, 2, 3, 4, 5, 6, 7, 8, 9}},
		{2, []int{0, 2, 4, 6, 8}},
		{3, []int{0, 3, 6, 9}},
		{4, []int{0, 4, 8}},
		{5, []int{0, 5}},
		{8, []int{0, 8}},
		{9, []int{0, 9}},
		{10, []int{0}},
		{300, []int{0}},
		{1 << 62, []int{0}},
		{math.MaxInt, []int{0}},
		{0, nil},
		{-1, nil},
		{-3, nil},
		{math.MinInt, nil},
	}
	for _, row := range rows {
		got := impl.MarksEvery(p, list, row.every)
		if !sameMarks(got, marksAt(machines, row.places...)) {
			t.Errorf("every %d: %v, want %v", row.every, placesOf(got), row.places)
		}
	}
	for _, every := range []int{1, 7, 300, math.MaxInt} {
		if got := impl.MarksEvery(p, nil, every); !sameMarks(got, marksAt(machines, 0)) {
			t.Errorf("every %d of no choices: %v", every, got)
		}
	}
}

func TestP82MarksAtMultiples(t *testing.T) {
	d := dice{seed: 86}
	for i := 0; i < 150; i++ {
		p := d.lively()
		list := d.run(p, d.oneOf([]int{0, 1, 2, 20, 60, 300}))
		for _, every := range []int{1, 2, 3, 1 + d.below(300), max(len(list), 1), len(list) + 1} {
			marks := impl.MarksEvery(p, list, every)
			if !impl.MarksOk(p, list, marks) || !marksExpected(p, list, marks) || len(marks) != len(list)/every+1 {
				t.Fatalf("every %d of %v of %v: %v", every, list, p, marks)
			}
			for k, x := range marks {
				if x.At != k*every {
					t.Fatalf("every %d of %v of %v: %v", every, list, p, placesOf(marks))
				}
			}
		}
	}
}

func TestP82NoMarksOfOthers(t *testing.T) {
	p, list, _ := talker(t)
	jumps := program(t, -1, "jump 0")
	none := func(what string, p impl.Program, list []impl.Choice) {
		t.Helper()
		for _, every := range []int{math.MinInt, -1, 0, 1, 2, 300, math.MaxInt} {
			if marks := impl.MarksEvery(p, list, every); len(marks) != 0 {
				t.Errorf("%s: every %d has marks %v", what, every, marks)
			}
		}
		if marks := impl.MarksThin(p, list); len(marks) != 0 {
			t.Errorf("%s: there are kept %v", what, marks)
		}
	}
	none("a choice that can not be made", p, joined(list, impl.Choice{}))
	none("the first one can not be made", p, joined(steps(1), list...))
	none("301 choices", jumps, make([]impl.Choice, 301))
	none("1000 choices", jumps, make([]impl.Choice, 1000))
	for _, bad := range brokenPrograms() {
		none("what is no program", bad, nil)
		none("what is no program, with a choice", bad, steps(0))
	}
}

func TestP83NearByHand(t *testing.T) {
	rows := []struct {
		places []int
		at     int
		want   int
	}{
		{nil, 0, -1}, {nil, 5, -1}, {nil, math.MaxInt, -1}, {nil, math.MinInt, -1},
		{[]int{0}, 0, 0}, {[]int{0}, 7, 0}, {[]int{0}, -1, -1}, {[]int{0}, math.MinInt, -1}, {[]int{0}, math.MaxInt, 0},
		{[]int{3}, 2, -1}, {[]int{3}, 3, 0}, {[]int{3}, 4, 0},
		{[]int{0, 8, 16}, 0, 0}, {[]int{0, 8, 16}, 7, 0}, {[]int{0, 8, 16}, 8, 1}, {[]int{0, 8, 16}, 15, 1}, {[]int{0, 8, 16}, 16, 2}, {[]int{0, 8, 16}, 17, 2},
		{[]int{2, 5, 7, 9}, 1, -1}, {[]int{2, 5, 7, 9}, 6, 1}, {[]int{2, 5, 7, 9}, 8, 2}, {[]int{2, 5, 7, 9}, 1000, 3},
		{[]int{-5, -2, 4}, -6, -1}, {[]int{-5, -2, 4}, -5, 0}, {[]int{-5, -2, 4}, -3, 0}, {[]int{-5, -2, 4}, -2, 1}, {[]int{-5, -2, 4}, 3, 1},
		{[]int{math.MinInt, math.MaxInt}, math.MinInt, 0}, {[]int{math.MinInt, math.MaxInt}, 0, 0}, {[]int{math.MinInt, math.MaxInt}, math.MaxInt - 1, 0}, {[]int{math.MinInt, math.MaxInt}, math.MaxInt, 1},
		// What is not ascending has no halves, and so there is none.
		{[]int{3, 3}, 3, -1}, {[]int{3, 3}, 9, -1}, {[]int{5, 4}, 4, -1}, {[]int{5, 4}, 9, -1}, {[]int{0, 2, 1, 3}, 3, -1}, {[]int{9, 8, 7, 6}, 8, -1}, {[]int{0, 1, 2, 2}, 0, -1},
	}
	for _, row := range rows {
		if got := impl.MarkNear(marksOnly(row.places...), row.at); got != row.want {
			t.Errorf("of %v the last one up to %d is %d, want %d", row.places, row.at, got, row.want)
		}
	}
}

// ascending returns so many ascending numbers.
func (d *dice) ascending(many int) []int {
	out := []int{}
	now := d.oneOf([]int{-40, -1, 0, 0, 1, math.MinInt})
	step := d.oneOf([]int{1, 2, 9, 1 << 40})
	for i := 0; i < many; i++ {
		out = append(out, now)
		now += 1 + d.below(step)
	}
	return out
}

func TestP83TheLastOneThatIsNoFartherIsFound(t *testing.T) {
	d := dice{seed: 87}
	for many := 0; many < 40; many++ {
		for i := 0; i < 10; i++ {
			places := d.ascending(many)
			marks := marksOnly(places...)
			looks := []int{math.MinInt, -1, 0, 1, math.MaxInt}
			for _, place := range places {
				looks = append(looks, place-1, place, place+1)
			}
			for _, k := range looks {
				if got, want := impl.MarkNear(marks, k), nearExpected(places, k); got != want {
					t.Fatalf("of %v the last one up to %d is %d, want %d", places, k, got, want)
				}
			}
		}
	}
	places := d.ascending(1000)
	for k, place := range places {
		if got := impl.MarkNear(marksOnly(places...), place); got != k {
			t.Fatalf("of 1000 the last one up to %d is %d, want %d", place, got, k)
		}
	}
}

func TestP84PutByHand(t *testing.T) {
	rows := []struct {
		places []int
		x      int
		want   []int
	}{
		{nil, 0, []int{0}}, {nil, -7, []int{-7}}, {nil, math.MaxInt, []int{math.MaxInt}},
		{[]int{3}, 2, []int{2, 3}}, {[]int{3}, 4, []int{3, 4}}, {[]int{3}, 3, []int{3}},
		{[]int{0, 8, 16}, -1, []int{-1, 0, 8, 16}}, {[]int{0, 8, 16}, 1, []int{0, 1, 8, 16}}, {[]int{0, 8, 16}, 9, []int{0, 8, 9, 16}}, {[]int{0, 8, 16}, 17, []int{0, 8, 16, 17}},
		{[]int{0, 8, 16}, 0, []int{0, 8, 16}}, {[]int{0, 8, 16}, 8, []int{0, 8, 16}}, {[]int{0, 8, 16}, 16, []int{0, 8, 16}},
		{[]int{-1, 1}, math.MinInt, []int{math.MinInt, -1, 1}}, {[]int{-1, 1}, math.MaxInt, []int{-1, 1, math.MaxInt}}, {[]int{math.MinInt, math.MaxInt}, 0, []int{math.MinInt, 0, math.MaxInt}},
		// Marks in no order keep theirs: one more comes ahead of the first one that is farther.
		{[]int{9, 5, 7}, 6, []int{6, 9, 5, 7}}, {[]int{5, 3, 9, 1}, 8, []int{5, 3, 8, 9, 1}}, {[]int{5, 3}, 8, []int{5, 3, 8}},
		{[]int{9, 5, 7}, 7, []int{9, 5, 7}}, {[]int{4, 4}, 4, []int{4, 4}}, {[]int{4, 4}, 5, []int{4, 4, 5}},
	}
	for _, row := range rows {
		marks := marksOnly(row.places...)
		for k := range marks {
			marks[k].M.Told = []int{k}
		}
		got := impl.MarkPut(marks, impl.Mark{At: row.x, M: withTold(impl.Machine{}, 5)})
		if !sameInts(placesOf(got), row.want) {
			t.Errorf("%v with %d: %v, want %v", row.places, row.x, placesOf(got), row.want)
			continue
		}
		left := []impl.Mark{}
		for _, y := range got {
			if len(y.M.Told) == 1 {
				left = append(left, y)
			} else if y.At != row.x || len(y.M.Told) != 5 {
				t.Errorf("%v with %d: there is %v", row.places, row.x, y)
			}
		}
		if !sameMarks(left, marks) || slices.Contains(row.places, row.x) && len(got) != len(marks) {
			t.Errorf("%v with %d: the others are %v", row.places, row.x, left)
		}
	}
}

func TestP84PutLooksAtPlacesAlone(t *testing.T) {
	machines := []impl.Machine{
		{},
		impl.MachineNew(),
		withTold(impl.Machine{}, 2000),
		{Threads: make([]impl.Thread, 9), Locks: []int{7, 8, 9}, Cells: []int{-1}},
		{Threads: []impl.Thread{{At: -1, Regs: []int{math.MinInt}, Stack: make([]int, 20), State: 77}}},
	}
	for _, a := range machines {
		for _, b := range machines {
			marks := []impl.Mark{{At: 2, M: a}, {At: 5, M: b}}
			for _, x := range []impl.Mark{{At: 2, M: b}, {At: 5, M: a}} {
				if got := impl.MarkPut(marks, x); !sameMarks(got, marks) {
					t.Errorf("there is a mark at %d, and %v were made %v", x.At, marks, got)
				}
			}
			want := []impl.Mark{marks[0], {At: 3, M: a}, marks[1]}
			if got := impl.MarkPut(marks, impl.Mark{At: 3, M: a}); !sameMarks(got, want) {
				t.Errorf("%v with one at 3: %v", marks, got)
			}
		}
	}
}

func TestP84OneMarkMoreNeverMakesTheWayLonger(t *testing.T) {
	d := dice{seed: 88}
	shorter, same := 0, 0
	for i := 0; i < 300; i++ {
		p := d.lively()
		list := d.run(p, d.oneOf([]int{0, 1, 2, 10, 30}))
		machines := machinesExpected(p, list)
		marks := d.marks(machines)
		place := d.below(len(machines))
		more := impl.MarkPut(marks, marksAt(machines, place)[0])
		if !impl.MarksOk(p, list, more) || !slices.Contains(placesOf(more), place) || len(more) > len(marks)+1 {
			t.Fatalf("marks at %v of %v of %v with one at %d are at %v", placesOf(marks), list, p, place, placesOf(more))
		}
		for _, x := range marks {
			if !slices.Contains(placesOf(more), x.At) {
				t.Fatalf("marks at %v with one at %d are at %v", placesOf(marks), place, placesOf(more))
			}
		}
		for _, k := range []int{0, place, d.below(len(machines)), len(list)} {
			m, n, ok := impl.Arrive(p, list, marks, k)
			now, less, is := impl.Arrive(p, list, more, k)
			if !ok || !is || !equal(m, now) || less > n || k == place && less != 0 {
				t.Fatalf("at %d of %v of %v by marks at %v: %v, %d, %v, and with one at %d: %v, %d, %v", k, list, p, placesOf(marks), m, n, ok, place, now, less, is)
			}
			if less < n {
				shorter++
			} else {
				same++
			}
		}
	}
	if shorter < 100 || same < 100 {
		t.Fatalf("%d ways were shorter, and %d the same", shorter, same)
	}
}

func TestP84MarksPutInWhateverOrderAreTheSame(t *testing.T) {
	d := dice{seed: 89}
	for i := 0; i < 200; i++ {
		want := d.ascending(d.below(12))
		left := append([]int{}, want...)
		marks := []impl.Mark{}
		for len(left) > 0 {
			k := d.below(len(left))
			marks = impl.MarkPut(marks, markAt(left[k]))
			if d.below(2) == 0 {
				left = append(left[:k], left[k+1:]...)
			}
		}
		if !slices.Equal(placesOf(marks), want) {
			t.Fatalf("%v were put, and there are %v", want, placesOf(marks))
		}
	}
}

func TestP166OverWhateverProgramsAndRows(t *testing.T) {
	d := dice{seed: 90}
	good, bad := 0, 0
	for i := 0; i < 1500; i++ {
		p := d.anyProgram()
		list := []impl.Choice{}
		if impl.ProgramOk(p) {
			list = d.longRun(p, d.oneOf([]int{0, 1, 3, 20, 60}))
		}
		machines := machinesExpected(p, list)
		if len(machines) == 0 {
			machines = []impl.Machine{machineOf(at(0))}
		}
		marks := d.marks(machines)
		switch d.below(4) {
		case 0:
			list = d.mangledRun(list)
		case 1:
			marks = d.mangledMarks(marks, machines)
		case 2:
			if impl.ProgramOk(p) {
				p = d.mangledProgram(p)
			}
		}
		if marksAsExpected(t, p, list, marks) {
			good++
			arrives(t, p, list, marks, d.below(len(list)+1))
		} else {
			bad++
		}
	}
	if good < 300 || bad < 300 {
		t.Fatalf("%d were marks, and %d were none", good, bad)
	}
}

func TestP168OverWhateverProgramsAndRows(t *testing.T) {
	d := dice{seed: 91}
	good, bad := 0, 0
	for i := 0; i < 1200; i++ {
		p := d.anyProgram()
		list := []impl.Choice{}
		if impl.ProgramOk(p) {
			list = d.longRun(p, d.oneOf([]int{0, 1, 3, 20, 60, 300}))
		}
		if d.below(4) == 0 {
			list = d.mangledRun(list)
		}
		machines := machinesExpected(p, list)
		marks := impl.MarksThin(p, list)
		every := d.oneOf(append(fieldsNear(), 1, 2, 10, 300))
		multiples := impl.MarksEvery(p, list, every)
		if len(machines) != len(list)+1 {
			bad++
			if len(marks)+len(multiples) != 0 {
				t.Fatalf("%v of %v is no run, and has marks %v and %v", list, p, marks, multiples)
			}
			continue
		}
		good++
		fewAndNear(t, placesOf(marks), len(list))
		if !sameMarks(marks, marksAt(machines, keptPlaces(len(list))...)) || !impl.MarksOk(p, list, marks) {
			t.Fatalf("of %v of %v are kept %v", list, p, marks)
		}
		want := []int{}
		for k := 0; k <= len(list) && every > 0; k++ {
			if k%every == 0 {
				want = append(want, k)
			}
		}
		if !sameMarks(multiples, marksAt(machines, want...)) {
			t.Fatalf("every %d of %v of %v: %v", every, list, p, multiples)
		}
	}
	if good < 300 || bad < 300 {
		t.Fatalf("%d were runs, and %d were none", good, bad)
	}
}

// machinesOf returns the machines of marks.
func machinesOf(marks []impl.Mark) []impl.Machine {
	out := []impl.Machine{}
	for _, x := range marks {
		out = append(out, x.M)
	}
	return out
}

// placesKeptApart writes another place into each row of marks and the room behind its end, and reports whether each row has its own.
func placesKeptApart(rows ...[]impl.Mark) bool {
	for i, row := range rows {
		all := row[:cap(row)]
		for k := range all {
			all[k].At = -100 - i
		}
	}
	for i, row := range rows {
		for _, x := range row[:cap(row)] {
			if x.At != -100-i {
				return false
			}
		}
	}
	return true
}

func TestResultsOfStage6AreNew(t *testing.T) {
	d := dice{seed: 92}
	for i := 0; i < 300; i++ {
		p := d.lively()
		rows := append([]impl.Code{}, p.Rows...)
		was := d.run(p, d.oneOf([]int{0, 1, 2, 20}))
		list := append(make([]impl.Choice, 0, len(was)+2), was...)
		copy(list[len(list):cap(list)], steps(-88, -88))
		machines := machinesExpected(p, was)
		wasMarks := d.marks(machines)
		marks := make([]impl.Mark, 0, len(wasMarks)+2)
		for _, x := range wasMarks {
			marks = append(marks, impl.Mark{At: x.At, M: roomyMachine(x.M)})
		}
		x := impl.Mark{At: d.below(len(machines))}
		x.M = roomyMachine(machines[x.At])
		made := []impl.Machine{}
		put := [][]impl.Mark{}
		for n := 0; n < 2; n++ {
			impl.MarksOk(p, list, marks)
			impl.MarkNear(marks, x.At)
			put = append(put, impl.MarkPut(marks, x), impl.MarksEvery(p, list, 1+d.below(4)), impl.MarksThin(p, list))
			for _, k := range []int{0, x.At, len(list)} {
				m, _, _ := impl.Arrive(p, list, marks, k)
				made = append(made, m)
			}
		}
		for _, row := range put {
			made = append(made, machinesOf(row)...)
		}
		if scribbled(made...) || !placesKeptApart(put...) {
			t.Fatalf("marks or machines of %v of %v share memory", was, p)
		}
		if !sameMarks(marks, wasMarks) || !unharmed(x.M, machines[x.At]) {
			t.Fatalf("%v or %v was written to", wasMarks, x)
		}
		for k, y := range marks {
			if !unharmed(y.M, wasMarks[k].M) {
				t.Fatalf("%v was written to: %v", wasMarks[k], y)
			}
		}
		for _, y := range marks[len(marks):cap(marks)] {
			if y.At != 0 || !isNothing(y.M) {
				t.Fatalf("behind marks was written %v", y)
			}
		}
		if !slices.Equal(list, was) || !slices.Equal(list[len(list):cap(list)], steps(-88, -88)) || !slices.Equal(p.Rows, rows) {
			t.Fatalf("%v or %v was written to: %v, %v", was, rows, list[:cap(list)], p.Rows)
		}
		marksAsExpected(t, p, list, marks)
	}
}

func TestWayOfMarksIsFromTheNearestOn(t *testing.T) {
	p, list, machines := talker(t)
	for _, row := range waysByHand() {
		marks := marksAt(machines, row.places...)
		for k := range machines {
			near := impl.MarkNear(marks, k)
			from := 0
			if near >= 0 {
				from = marks[near].At
			}
			if _, n, _ := impl.Arrive(p, list, marks, k); n != k-from {
				t.Errorf("%s: to %d %d choices were made, and the nearest mark is at %d", row.what, k, n, from)
			}
		}
	}
	calls := callsOf(newSource(t))
	for _, way := range [][]string{{"Arrive", "MarkNear"}, {"Arrive", "MarksOk"}, {"Arrive", "Do"}, {"MarksThin", "Kept"}} {
		if !reaches(calls, way[0], way[1], map[string]bool{}) {
			t.Errorf("%s does not go by %s", way[0], way[1])
		}
	}
}
