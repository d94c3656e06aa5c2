package tests

import (
	"fmt"
	"math"
	"slices"
	"testing"

	"loop.example/backintime/impl"
)

func isNoRecord(r impl.Record) bool {
	return len(r.Slices)+len(r.Answers) == 0
}

// noRecord fails if a function of recordings returns anything but its fixed result.
func noRecord(t *testing.T, what string, p impl.Program, r impl.Record) {
	t.Helper()
	if impl.RecordOk(p, r) {
		t.Fatalf("%s: %v is a recording of %v", what, r, p)
	}
	if list, ok := impl.Replay(p, r); ok || len(list) != 0 {
		t.Fatalf("%s: the run of %v is %v, %v", what, r, list, ok)
	}
	for _, n := range []int{math.MinInt, -1, 0, 1, 2, 3, 300, 301, math.MaxInt} {
		if cut, ok := impl.RecordCut(p, r, n); ok || !isNoRecord(cut) {
			t.Fatalf("%s: RecordCut(%v, %d) = %v, %v", what, r, n, cut, ok)
		}
	}
	for _, more := range []impl.Record{{}, r, recordOf(nil, sliceOf(0, 0, 1)), recordOf([]int{1}, sliceOf(0, 0, 1))} {
		if both, ok := impl.RecordJoin(p, r, more); ok || !isNoRecord(both) {
			t.Fatalf("%s: RecordJoin(%v, %v) = %v, %v", what, r, more, both, ok)
		}
	}
	if both, ok := impl.RecordJoin(p, impl.Record{}, r); ok || !isNoRecord(both) {
		t.Fatalf("%s: RecordJoin(%v) behind nothing = %v, %v", what, r, both, ok)
	}
}

// recorded is a run and its recording, by hand.
type recorded struct {
	what string
	p    impl.Program
	list []impl.Choice
	r    impl.Record
	size int
}

func recordings(t *testing.T) []recorded {
	t.Helper()
	talks, talk, _ := talker(t)
	asking := program(t, 1, "ask 0", "jump 0")
	jumps := program(t, -1, "jump 0")
	threads := program(t, -1, "begin 1", "ask 0", "jump 1")
	signal := impl.Choice{Kind: impl.ChoiceSignal}
	return []recorded{
		{"no choices", asking, nil, recordOf(nil), 0},
		{"a row of no choices", asking, []impl.Choice{}, recordOf([]int{}), 0},
		{"one answer", asking, []impl.Choice{{Reply: 9999}}, recordOf([]int{9999}, sliceOf(0, 0, 1)), 4},
		{"one step without an answer", jumps, steps(0), recordOf(nil, sliceOf(0, 0, 1)), 3},
		{"answers of 0", asking, steps(0, 0, 0), recordOf([]int{0, 0}, sliceOf(0, 0, 3)), 5},
		{"answers in order", asking, []impl.Choice{{Reply: 7}, {}, {Reply: 5}, {}, {Reply: 7}}, recordOf([]int{7, 5, 7}, sliceOf(0, 0, 5)), 6},
		{"a signal where one asks", asking, []impl.Choice{signal}, recordOf(nil, sliceOf(0, 1, 1)), 3},
		{"signals of one thread are one slice", asking, []impl.Choice{signal, signal, {}}, recordOf(nil, sliceOf(0, 1, 2), sliceOf(0, 0, 1)), 6},
		{"a signal parts steps", asking, []impl.Choice{{Reply: 3}, signal, {}, {Reply: 4}}, recordOf([]int{3, 4}, sliceOf(0, 0, 1), sliceOf(0, 1, 1), sliceOf(0, 0, 2)), 11},
		{"threads by turns", threads, []impl.Choice{{}, {Who: 1, Reply: 1}, {Reply: 2}, {Who: 1}, {Who: 1, Reply: 3}, {}}, recordOf([]int{1, 2, 3}, sliceOf(0, 0, 1), sliceOf(1, 0, 1), sliceOf(0, 0, 1), sliceOf(1, 0, 2), sliceOf(0, 0, 1)), 18},
		{"a thread that fails", program(t, -1, "ret"), steps(0), recordOf(nil, sliceOf(0, 0, 1)), 3},
		{"behind the end", program(t, -1, "ask 3"), []impl.Choice{{Reply: 8}, {}}, recordOf([]int{8}, sliceOf(0, 0, 2)), 4},
		{"300 choices", jumps, make([]impl.Choice, 300), recordOf(nil, sliceOf(0, 0, 300)), 3},
		{"a talk", talks, talk, recordOf([]int{42}, sliceOf(0, 0, 1), sliceOf(1, 0, 1), sliceOf(0, 0, 2), sliceOf(1, 1, 1), sliceOf(0, 0, 1), sliceOf(1, 0, 1), sliceOf(0, 0, 2)), 22},
	}
}

func TestP5RecordingsByHand(t *testing.T) {
	for _, row := range recordings(t) {
		r, ok := impl.RecordOf(row.p, row.list)
		if !ok || !sameRecord(r, row.r) {
			t.Errorf("%s: %v, %v, want %v", row.what, r, ok, row.r)
		}
		list, ok := impl.Replay(row.p, row.r)
		if !ok || !slices.Equal(list, row.list) {
			t.Errorf("%s: the run is %v, %v, want %v", row.what, list, ok, row.list)
		}
		if !impl.RecordOk(row.p, row.r) {
			t.Errorf("%s: %v is no recording", row.what, row.r)
		}
	}
}

// givesItsRun fails if promise 5 is broken for a run; it returns the recording.
func givesItsRun(t *testing.T, p impl.Program, list []impl.Choice) impl.Record {
	t.Helper()
	want, _ := recordExpected(p, list)
	r, ok := impl.RecordOf(p, list)
	if !ok || !sameRecord(r, want) {
		t.Fatalf("RecordOf(%v, %v) = %v, %v, want %v", p, list, r, ok, want)
	}
	again, ok := impl.Replay(p, r)
	if !ok || !slices.Equal(again, list) || !impl.RecordOk(p, r) {
		t.Fatalf("%v of %v is recorded as %v, and this is the recording of %v, %v", list, p, r, again, ok)
	}
	was, now := impl.Machines(p, list), impl.Machines(p, again)
	if len(was) != len(list)+1 || len(now) != len(was) {
		t.Fatalf("%v of %v has %d machines, and replayed %d", list, p, len(was), len(now))
	}
	for k := range was {
		if !equal(was[k], now[k]) {
			t.Fatalf("machine %d of %v of %v is %v, and replayed %v", k, list, p, was[k], now[k])
		}
	}
	return r
}

func TestP5ARecordingGivesTheRunAgain(t *testing.T) {
	d := dice{seed: 41}
	long, answers, signals := 0, 0, 0
	for i := 0; i < 500; i++ {
		p := d.lively()
		n := d.oneOf([]int{0, 1, 2, 3, 20, 60, 299, 300})
		list := d.longRun(p, n)
		if i%2 == 0 {
			list = d.run(p, n)
		}
		r := givesItsRun(t, p, list)
		answers += len(r.Answers)
		for _, s := range r.Slices {
			if s.Many > 5 {
				long++
			}
			signals += s.Kind
		}
	}
	if long < 200 || answers < 200 || signals < 200 {
		t.Fatalf("%d slices were long, %d were signals, and there were %d answers", long, signals, answers)
	}
}

func TestP5RunsOfSeedsAreGivenAgain(t *testing.T) {
	d := dice{seed: 42}
	for i := 0; i < 200; i++ {
		p := d.lively()
		givesItsRun(t, p, impl.RunOfSeed(p, d.below(2147483647), d.oneOf([]int{1, 10, 100, 300})))
	}
}

func TestP5NoRecordingOfOthers(t *testing.T) {
	asking := program(t, 1, "ask 0", "jump 0")
	jumps := program(t, -1, "jump 0")
	rows := []struct {
		what string
		p    impl.Program
		list []impl.Choice
	}{
		{"a thread that is not there", asking, steps(1)},
		{"the last one can not be made", asking, steps(0, 0, 0, 4)},
		{"one in the middle can not be made", asking, steps(0, -1, 0)},
		{"an answer where none is asked for", asking, []impl.Choice{{}, {Reply: 1}, {}}},
		{"an answer to a signal", asking, []impl.Choice{{Kind: 1, Reply: 1}}},
		{"an answer too great", asking, []impl.Choice{{Reply: 10000}}},
		{"an answer too small", asking, []impl.Choice{{Reply: -1}}},
		{"no such kind", asking, []impl.Choice{{Kind: 2}}},
		{"a signal without a handler", jumps, []impl.Choice{{Kind: 1}}},
		{"301 choices", jumps, make([]impl.Choice, 301)},
		{"1000 choices", jumps, make([]impl.Choice, 1000)},
	}
	for _, row := range rows {
		if r, ok := impl.RecordOf(row.p, row.list); ok || !isNoRecord(r) {
			t.Errorf("%s: %v, %v", row.what, r, ok)
		}
	}
	for _, p := range brokenPrograms() {
		for _, list := range [][]impl.Choice{nil, {}, steps(0), make([]impl.Choice, 300)} {
			if r, ok := impl.RecordOf(p, list); ok || !isNoRecord(r) {
				t.Errorf("of %v, which is no program: %v, %v", p, r, ok)
			}
		}
	}
}

func TestP6NoRecordingsByHand(t *testing.T) {
	asking := program(t, 1, "ask 0", "jump 0")
	jumps := program(t, -1, "jump 0")
	threads := program(t, -1, "begin 2", "halt", "lock 0", "jump 3")
	one := sliceOf(0, 0, 1)
	rows := []struct {
		what string
		p    impl.Program
		r    impl.Record
	}{
		{"slices that could be one", jumps, recordOf(nil, one, one)},
		{"slices that could be one, behind others", asking, recordOf([]int{1}, sliceOf(0, 1, 1), one, one)},
		{"signals that could be one slice", asking, recordOf(nil, sliceOf(0, 1, 1), sliceOf(0, 1, 2))},
		{"a slice of no steps", jumps, recordOf(nil, sliceOf(0, 0, 0))},
		{"a slice of no steps ahead", asking, recordOf([]int{1}, sliceOf(0, 1, 0), one)},
		{"a slice of no steps behind", asking, recordOf([]int{1}, one, sliceOf(0, 1, 0))},
		{"a slice of no steps between", asking, recordOf([]int{1}, one, sliceOf(0, 1, 0), one)},
		{"a slice of no steps of a thread that is not there", jumps, recordOf(nil, one, sliceOf(3, 0, 0))},
		{"a slice of fewer than no steps", jumps, recordOf(nil, sliceOf(0, 0, -1))},
		{"a slice of as few as it goes", jumps, recordOf(nil, sliceOf(0, 0, math.MinInt))},
		{"a slice that is taken from another one", asking, recordOf([]int{1, 2}, sliceOf(0, 0, 3), sliceOf(0, 1, -1), one)},
		{"an answer that is left", asking, recordOf([]int{1, 2}, one)},
		{"an answer that is left of no slices", asking, recordOf([]int{1})},
		{"an answer that is left where nothing is asked", jumps, recordOf([]int{0}, one)},
		{"an answer to a signal", asking, recordOf([]int{0}, sliceOf(0, 1, 1))},
		{"many answers that are left", asking, recordOf(make([]int, 1000), one)},
		{"an answer that is missing", asking, recordOf(nil, one)},
		{"the last answer is missing", asking, recordOf([]int{1, 2}, sliceOf(0, 0, 5))},
		{"an answer too great", asking, recordOf([]int{10000}, one)},
		{"an answer too small", asking, recordOf([]int{-1}, one)},
		{"the last answer too great", asking, recordOf([]int{0, math.MaxInt}, sliceOf(0, 0, 3))},
		{"a thread that is not there", jumps, recordOf(nil, sliceOf(1, 0, 1))},
		{"a thread past all", jumps, recordOf(nil, sliceOf(4, 0, 1))},
		{"a thread below all", jumps, recordOf(nil, sliceOf(-1, 0, 1))},
		{"a thread ahead of its beginning", threads, recordOf(nil, sliceOf(1, 0, 1), one)},
		{"no such kind", jumps, recordOf(nil, sliceOf(0, 2, 1))},
		{"a kind below all", jumps, recordOf(nil, sliceOf(0, -1, 1))},
		{"a signal without a handler", jumps, recordOf(nil, sliceOf(0, 1, 1))},
		{"signals more than the stack takes", asking, recordOf(nil, sliceOf(0, 1, 7))},
		{"a step more than it has", threads, recordOf(nil, sliceOf(0, 0, 3))},
		{"it waits for itself", program(t, -1, "lock 0", "jump 0"), recordOf(nil, sliceOf(0, 0, 3))},
		{"301 choices", jumps, recordOf(nil, sliceOf(0, 0, 301))},
		{"301 choices in slices", asking, recordOf(make([]int, 148), sliceOf(0, 0, 295), sliceOf(0, 1, 5), one)},
		{"as many as it goes", jumps, recordOf(nil, sliceOf(0, 0, math.MaxInt))},
		{"more than numbers go", asking, recordOf([]int{1}, sliceOf(0, 0, math.MaxInt), sliceOf(0, 1, math.MaxInt), sliceOf(0, 0, 3))},
		{"many slices that could be one", jumps, recordOf(nil, make([]impl.Slice, 1000)...)},
	}
	for _, row := range rows {
		noRecord(t, row.what, row.p, row.r)
	}
	for _, p := range brokenPrograms() {
		for _, r := range []impl.Record{{}, recordOf(nil, one), recordOf([]int{1}, one), recordOf(nil, sliceOf(0, 0, 300))} {
			noRecord(t, "a program that is none", p, r)
		}
	}
}

func TestP6AsManyChoicesAsARunMayHave(t *testing.T) {
	jumps := program(t, -1, "jump 0")
	asking := program(t, 1, "ask 0", "jump 0")
	turns := program(t, -1, "begin 0", "jump 1")
	alone := []impl.Slice{}
	for k := 0; k < 301; k++ {
		alone = append(alone, sliceOf(k%2, 0, 1))
	}
	questions := impl.Program{Handler: -1}
	for k := 0; k < 59; k++ {
		questions.Rows = append(questions.Rows, impl.Code{Op: impl.OpAsk, A: k % 4})
	}
	questions.Rows = append(questions.Rows, impl.Code{Op: impl.OpJump})
	rows := []struct {
		what string
		p    impl.Program
		r    impl.Record
		is   bool
	}{
		{"299 in one slice", jumps, recordOf(nil, sliceOf(0, 0, 299)), true},
		{"300 in one slice", jumps, recordOf(nil, sliceOf(0, 0, 300)), true},
		{"301 in one slice", jumps, recordOf(nil, sliceOf(0, 0, 301)), false},
		{"300 in slices, with answers", asking, recordOf(make([]int, 147), sliceOf(0, 0, 294), sliceOf(0, 1, 6)), true},
		{"301 in slices, with answers", asking, recordOf(make([]int, 148), sliceOf(0, 0, 295), sliceOf(0, 1, 6)), false},
		{"300 in two slices", asking, recordOf(make([]int, 150), sliceOf(0, 1, 1), sliceOf(0, 0, 299)), false},
		{"300 in two slices, the first one of signals", asking, recordOf(make([]int, 149), sliceOf(0, 1, 1), sliceOf(0, 0, 299)), true},
		{"299 in 299 slices", turns, recordOf(nil, alone[:299]...), true},
		{"300 in 300 slices", turns, recordOf(nil, alone[:300]...), true},
		{"301 in 301 slices", turns, recordOf(nil, alone...), false},
		{"301 in 300 slices", turns, recordOf(nil, append(append([]impl.Slice{}, alone[:299]...), sliceOf(1, 0, 2))...), false},
		{"294 answers of 300", questions, recordOf(make([]int, 294), sliceOf(0, 0, 300)), false},
		{"295 answers of 300", questions, recordOf(make([]int, 295), sliceOf(0, 0, 300)), true},
		{"296 answers of 300", questions, recordOf(make([]int, 296), sliceOf(0, 0, 300)), false},
	}
	for _, row := range rows {
		if got := recordAsExpected(t, row.p, row.r); got != row.is {
			t.Errorf("%s: it is a recording: %v", row.what, got)
		}
	}
}

// eachRun returns all runs of a program with at most so many choices, where 0 and 1 are answered.
func eachRun(p impl.Program, n int) [][]impl.Choice {
	out := [][]impl.Choice{{}}
	for k := 0; k < len(out); k++ {
		machines := machinesExpected(p, out[k])
		for i := 0; i < 16 && len(out[k]) < n; i++ {
			c := impl.Choice{Who: i / 4, Kind: i / 2 % 2, Reply: i % 2}
			if canExpected(p, machines[len(out[k])], c) {
				out = append(out, joined(out[k], c))
			}
		}
	}
	return out
}

// eachRecord returns all recordings, and others, with slices of at most so many choices, and with answers 0 and 1.
func eachRecord(n int) []impl.Record {
	out := []impl.Record{{}}
	counts := []int{0}
	for k := 0; k < len(out); k++ {
		for i := 0; i < 16; i++ {
			many := i % 4
			if counts[k]+max(many, 1) > n {
				continue
			}
			more := append(append([]impl.Slice{}, out[k].Slices...), sliceOf(i/8, i/4%2, many))
			out = append(out, recordOf(nil, more...))
			counts = append(counts, counts[k]+max(many, 1))
		}
	}
	for k := 0; k < len(out); k++ {
		if len(out[k].Answers) < 2 {
			for answer := 0; answer < 2; answer++ {
				out = append(out, recordOf(append(cloneInts(out[k].Answers), answer), out[k].Slices...))
			}
		}
	}
	return out
}

func smallPrograms(t *testing.T) []impl.Program {
	t.Helper()
	return []impl.Program{
		program(t, 1, "ask 0", "jump 0"),
		program(t, -1, "begin 1", "ask 0", "jump 0"),
		program(t, 0, "begin 1", "jump 0"),
		program(t, 2, "lock 0", "begin 0", "ret"),
		program(t, -1, "jump 0"),
	}
}

func TestP6EachRunOfAShortOneHasOneRecording(t *testing.T) {
	records := eachRecord(3)
	for _, p := range smallPrograms(t) {
		runs := eachRun(p, 3)
		recordFor := map[string]impl.Record{}
		for _, list := range runs {
			r := givesItsRun(t, p, list)
			recordFor[fmt.Sprint(list)] = r
		}
		found := 0
		for _, r := range records {
			if !recordAsExpected(t, p, r) {
				continue
			}
			list, _ := impl.Replay(p, r)
			if again, ok := recordFor[fmt.Sprint(list)]; !ok || !sameRecord(again, r) {
				t.Fatalf("%v and %v are recordings of %v of %v", r, again, list, p)
			}
			found++
		}
		if found != len(runs) || len(recordFor) != len(runs) {
			t.Fatalf("%v has %d runs, and %d recordings", p, len(runs), found)
		}
	}
}

// isRecordedSo fails if promise 6 is broken for a recording.
func isRecordedSo(t *testing.T, p impl.Program, r impl.Record) {
	t.Helper()
	list, ok := impl.Replay(p, r)
	if !ok || !impl.RunOk(p, list) || len(machinesExpected(p, list)) != len(list)+1 {
		t.Fatalf("what is replayed of %v of %v is no run: %v, %v", r, p, list, ok)
	}
	if again, ok := impl.RecordOf(p, list); !ok || !sameRecord(again, r) {
		t.Fatalf("%v of %v is replayed as %v, and recorded again as %v, %v", r, p, list, again, ok)
	}
}

func TestP6WhatIsReplayedIsRecordedSoAgain(t *testing.T) {
	d := dice{seed: 43}
	good, bad := 0, 0
	for i := 0; i < 2500; i++ {
		p := d.lively()
		r, _ := recordExpected(p, d.longRun(p, d.oneOf([]int{0, 1, 3, 20, 100, 300})))
		r = d.mangledRecord(r)
		if recordAsExpected(t, p, r) {
			good++
			isRecordedSo(t, p, r)
		} else {
			bad++
		}
	}
	if good < 300 || bad < 300 {
		t.Fatalf("%d were recordings, and %d were none", good, bad)
	}
}

// joinsAtItsPlace fails if promise 7 is broken where a run is parted.
func joinsAtItsPlace(t *testing.T, p impl.Program, list []impl.Choice, k int) {
	t.Helper()
	first, _ := recordExpected(p, list[:k])
	all, _ := recordExpected(p, list)
	more := partRecord(p, machinesExpected(p, list)[k], list[k:])
	both, ok := impl.RecordJoin(p, first, more)
	if !ok || !sameRecord(both, all) {
		t.Fatalf("RecordJoin(%v, %v, %v) = %v, %v, want %v", p, first, more, both, ok, all)
	}
	run, ok := impl.Replay(p, both)
	if !ok || len(run) < k || !slices.Equal(run[:k], list[:k]) || !slices.Equal(run, list) {
		t.Fatalf("what is joined of %v and %v of %v is the recording of %v, %v", first, more, p, run, ok)
	}
	if cut, ok := impl.RecordCut(p, both, k); !ok || !sameRecord(cut, first) {
		t.Fatalf("cut behind %d choices %v of %v is %v, %v, want %v", k, both, p, cut, ok, first)
	}
}

func TestP7WhatGoesOnIsJoined(t *testing.T) {
	d := dice{seed: 44}
	met, apart := 0, 0
	for i := 0; i < 150; i++ {
		p := d.lively()
		list := d.longRun(p, d.oneOf([]int{0, 1, 2, 20, 40}))
		for k := 0; k <= len(list); k++ {
			joinsAtItsPlace(t, p, list, k)
			if k > 0 && k < len(list) && list[k-1].Who == list[k].Who && list[k-1].Kind == list[k].Kind {
				met++
			} else {
				apart++
			}
		}
	}
	if met < 300 || apart < 300 {
		t.Fatalf("%d times slices were made one, and %d times not", met, apart)
	}
}

func TestP7JoinedByHand(t *testing.T) {
	asking := program(t, 1, "ask 0", "jump 0")
	threads := program(t, 1, "begin 0", "ask 0", "jump 1")
	begun := recordOf(nil, sliceOf(0, 0, 1), sliceOf(1, 0, 1))
	asked := recordOf([]int{5}, sliceOf(0, 0, 1))
	rows := []struct {
		what string
		p    impl.Program
		r    impl.Record
		more impl.Record
		want impl.Record
	}{
		{"nothing behind nothing", asking, recordOf(nil), recordOf(nil), recordOf(nil)},
		{"one behind nothing", asking, recordOf(nil), asked, asked},
		{"nothing behind one", asking, asked, recordOf(nil), asked},
		{"slices made one", asking, asked, recordOf([]int{6}, sliceOf(0, 0, 2)), recordOf([]int{5, 6}, sliceOf(0, 0, 3))},
		{"signals made one", asking, recordOf(nil, sliceOf(0, 1, 1)), recordOf(nil, sliceOf(0, 1, 5)), recordOf(nil, sliceOf(0, 1, 6))},
		{"only those that meet are made one", threads, begun, recordOf([]int{7, 8}, sliceOf(1, 0, 1), sliceOf(0, 0, 1), sliceOf(1, 1, 1)), recordOf([]int{7, 8}, sliceOf(0, 0, 1), sliceOf(1, 0, 2), sliceOf(0, 0, 1), sliceOf(1, 1, 1))},
		{"of another kind", asking, asked, recordOf(nil, sliceOf(0, 1, 1)), recordOf([]int{5}, sliceOf(0, 0, 1), sliceOf(0, 1, 1))},
		{"of another thread", threads, begun, recordOf([]int{8}, sliceOf(0, 0, 1)), recordOf([]int{8}, sliceOf(0, 0, 1), sliceOf(1, 0, 1), sliceOf(0, 0, 1))},
		{"none of a run by itself", threads, begun, recordOf([]int{8, 9}, sliceOf(2, 0, 2), sliceOf(0, 0, 1)), recordOf([]int{8, 9}, sliceOf(0, 0, 1), sliceOf(1, 0, 1), sliceOf(2, 0, 2), sliceOf(0, 0, 1))},
		{"up to 300 choices", asking, asked, recordOf(make([]int, 149), sliceOf(0, 0, 299)), recordOf(append([]int{5}, make([]int, 149)...), sliceOf(0, 0, 300))},
		{"300 choices behind none", asking, recordOf(nil), recordOf(make([]int, 150), sliceOf(0, 0, 300)), recordOf(make([]int, 150), sliceOf(0, 0, 300))},
	}
	for _, row := range rows {
		both, ok := impl.RecordJoin(row.p, row.r, row.more)
		if !ok || !sameRecord(both, row.want) {
			t.Errorf("%s: %v, %v, want %v", row.what, both, ok, row.want)
		}
	}
}

func TestP7NotJoinedByHand(t *testing.T) {
	asking := program(t, 1, "ask 0", "jump 0")
	jumps := program(t, -1, "jump 0")
	three := recordOf([]int{1, 2}, sliceOf(0, 0, 3))
	one := sliceOf(0, 0, 1)
	rows := []struct {
		what string
		p    impl.Program
		r    impl.Record
		more impl.Record
	}{
		{"a slice of no steps that would be made one", asking, three, recordOf(nil, sliceOf(0, 0, 0))},
		{"a slice of no steps, and another one", asking, three, recordOf(nil, sliceOf(0, 0, 0), sliceOf(0, 1, 1))},
		{"a slice of no steps behind", asking, three, recordOf(nil, sliceOf(0, 1, 1), sliceOf(0, 0, 0))},
		{"a slice of fewer, and what would be left of it is one", asking, recordOf([]int{1}, sliceOf(0, 0, 2)), recordOf(nil, sliceOf(0, 0, -1))},
		{"a slice of 301 choices", jumps, recordOf(nil), recordOf(nil, sliceOf(0, 0, 301))},
		{"one choice more than a run may have", jumps, recordOf(nil, one), recordOf(nil, sliceOf(0, 0, 300))},
		{"one choice more behind 300", jumps, recordOf(nil, sliceOf(0, 0, 300)), recordOf(nil, one)},
		{"as many as it goes", jumps, recordOf(nil, one), recordOf(nil, sliceOf(0, 0, math.MaxInt))},
		{"as few as it goes", jumps, recordOf(nil, one), recordOf(nil, sliceOf(0, 0, math.MinInt))},
		{"so many that numbers go round", asking, three, recordOf([]int{1}, sliceOf(0, 1, math.MaxInt), sliceOf(0, 0, math.MaxInt), sliceOf(0, 1, 3))},
		{"slices that could be one behind the first", asking, three, recordOf(nil, one, one)},
		{"slices that could be one further behind", asking, three, recordOf([]int{1}, sliceOf(0, 1, 1), one, one)},
		{"an answer that is left", asking, three, recordOf([]int{1}, one)},
		{"an answer that is left of no slices", asking, three, recordOf([]int{1})},
		{"an answer that is missing", asking, three, recordOf(nil, sliceOf(0, 0, 2))},
		{"an answer too great", asking, three, recordOf([]int{10000}, sliceOf(0, 0, 2))},
		{"a thread that is not there", asking, three, recordOf(nil, sliceOf(1, 0, 1))},
		{"no such kind", asking, three, recordOf(nil, sliceOf(0, 2, 1))},
		{"many slices", asking, three, recordOf(nil, make([]impl.Slice, 1000)...)},
		{"many answers", asking, three, recordOf(make([]int, 1000), one)},
		{"the first one misses what the other one has", asking, recordOf([]int{1}, sliceOf(0, 0, 3)), recordOf([]int{2}, one)},
		{"the first one has what the other one misses", asking, recordOf([]int{1, 2, 3}, sliceOf(0, 0, 3)), recordOf(nil, sliceOf(0, 0, 2))},
		{"the first one has slices that could be one", asking, recordOf([]int{1}, one, one), recordOf(nil, sliceOf(0, 1, 1))},
		{"the first one has a slice of no steps", asking, recordOf(nil, sliceOf(0, 0, 0)), recordOf([]int{1}, one)},
		{"the first one has fewer, and what would come of both is one", asking, recordOf(nil, sliceOf(0, 0, -1)), recordOf([]int{1}, sliceOf(0, 0, 2))},
	}
	for _, row := range rows {
		both, ok := impl.RecordJoin(row.p, row.r, row.more)
		if ok || !isNoRecord(both) {
			t.Errorf("%s: %v, %v", row.what, both, ok)
		}
		joinedAsExpected(t, row.p, row.r, row.more)
	}
	for _, p := range brokenPrograms() {
		for _, more := range []impl.Record{{}, recordOf(nil, one)} {
			if both, ok := impl.RecordJoin(p, impl.Record{}, more); ok || !isNoRecord(both) {
				t.Errorf("of %v, which is no program: %v, %v", p, both, ok)
			}
		}
	}
}

func TestP73JustTheAnswersThatAreAskedFor(t *testing.T) {
	d := dice{seed: 45}
	asked := 0
	for i := 0; i < 400; i++ {
		p := d.lively()
		list := d.run(p, d.oneOf([]int{0, 1, 5, 40, 150}))
		answers := []int{}
		for k, m := range machinesExpected(p, list)[:len(list)] {
			if asks(p, m, list[k]) {
				answers = append(answers, list[k].Reply)
			}
		}
		r, ok := impl.RecordOf(p, list)
		if !ok || !slices.Equal(r.Answers, answers) {
			t.Fatalf("%v of %v is answered %v, and recorded as %v, %v", list, p, answers, r, ok)
		}
		asked += len(answers)
		noRecord(t, "an answer too many", p, recordOf(append(cloneInts(answers), d.word()), r.Slices...))
		noRecord(t, "an answer too many, ahead", p, recordOf(append([]int{d.word()}, answers...), r.Slices...))
		for k := range answers {
			noRecord(t, "an answer is missing", p, recordOf(slices.Delete(cloneInts(answers), k, k+1), r.Slices...))
		}
	}
	if asked < 300 {
		t.Fatalf("only %d answers were asked for", asked)
	}
}

func TestP73OtherAnswersAreAnotherRun(t *testing.T) {
	p := program(t, -1, "ask 0", "tell 0", "jump 0")
	r := recordOf([]int{0, 9999, 5}, sliceOf(0, 0, 9))
	list, ok := impl.Replay(p, r)
	m, there := impl.MachineAt(p, list, 9)
	if !ok || !there || !sameInts(m.Told, []int{0, 9999, 5}) {
		t.Fatalf("%v, %v leads to %v, %v", list, ok, m, there)
	}
	for k := range r.Answers {
		for _, bad := range []int{math.MinInt, -1, 10000, math.MaxInt} {
			other := cloneRecord(r)
			other.Answers[k] = bad
			noRecord(t, "an answer that is no number", p, other)
		}
		other := cloneRecord(r)
		other.Answers[k] = 77
		isRecordedSo(t, p, other)
	}
}

func TestP74SizesByHand(t *testing.T) {
	for _, row := range recordings(t) {
		if got := impl.RecordSize(row.r); got != row.size {
			t.Errorf("%s: %d numbers, want %d", row.what, got, row.size)
		}
	}
	// How many numbers there are does not hang on whether it is a recording.
	others := []struct {
		r    impl.Record
		want int
	}{
		{recordOf([]int{-1}), 1},
		{recordOf([]int{1, 2, 3}, sliceOf(-1, 7, math.MaxInt), sliceOf(-1, 7, math.MinInt)), 9},
		{recordOf(nil, sliceOf(0, 0, 0)), 3},
		{recordOf(make([]int, 1000), make([]impl.Slice, 1000)...), 4000},
	}
	for _, row := range others {
		if got := impl.RecordSize(row.r); got != row.want {
			t.Errorf("%v keeps %d numbers, want %d", row.r, got, row.want)
		}
	}
}

func TestP74NoMoreNumbersThanTheChoices(t *testing.T) {
	d := dice{seed: 46}
	for i := 0; i < 500; i++ {
		p := d.lively()
		list := d.longRun(p, d.oneOf([]int{0, 1, 2, 30, 300}))
		if i%2 == 0 {
			list = d.run(p, len(list))
		}
		r, ok := impl.RecordOf(p, list)
		if !ok || len(r.Slices) > len(list) || len(r.Answers) > len(list) {
			t.Fatalf("%d choices of %v are recorded as %v, %v", len(list), p, r, ok)
		}
		want, _ := recordExpected(p, list)
		got := impl.RecordSize(r)
		// A choice by itself would be a slice of three numbers, and an answer if it asks.
		if got != 3*len(want.Slices)+len(want.Answers) || got > 3*len(list)+len(want.Answers) || got > 4*len(list) {
			t.Fatalf("%v keeps %d numbers of %d choices", r, got, len(list))
		}
	}
}

func TestP75CutByHand(t *testing.T) {
	p, _, _ := talker(t)
	r := recordOf([]int{42}, sliceOf(0, 0, 1), sliceOf(1, 0, 1), sliceOf(0, 0, 2), sliceOf(1, 1, 1), sliceOf(0, 0, 1))
	want := []impl.Record{
		recordOf(nil),
		recordOf(nil, sliceOf(0, 0, 1)),
		recordOf(nil, sliceOf(0, 0, 1), sliceOf(1, 0, 1)),
		recordOf([]int{42}, sliceOf(0, 0, 1), sliceOf(1, 0, 1), sliceOf(0, 0, 1)),
		recordOf([]int{42}, sliceOf(0, 0, 1), sliceOf(1, 0, 1), sliceOf(0, 0, 2)),
		recordOf([]int{42}, sliceOf(0, 0, 1), sliceOf(1, 0, 1), sliceOf(0, 0, 2), sliceOf(1, 1, 1)),
		r,
	}
	for n := range want {
		if cut, ok := impl.RecordCut(p, r, n); !ok || !sameRecord(cut, want[n]) {
			t.Errorf("cut behind %d: %v, %v, want %v", n, cut, ok, want[n])
		}
	}
	for _, n := range []int{math.MinInt, -300, -1, 7, 8, 300, 301, math.MaxInt} {
		if cut, ok := impl.RecordCut(p, r, n); ok || !isNoRecord(cut) {
			t.Errorf("cut behind %d: %v, %v", n, cut, ok)
		}
	}
}

func TestP75WhatIsCutIsTheRecordingOfTheBeginning(t *testing.T) {
	d := dice{seed: 47}
	cuts := 0
	for i := 0; i < 200; i++ {
		p := d.lively()
		list := d.longRun(p, d.oneOf([]int{0, 1, 2, 10, 40}))
		r, _ := recordExpected(p, list)
		for n := -2; n <= len(list)+2; n++ {
			want, there := impl.Record{}, n >= 0 && n <= len(list)
			if there {
				want, _ = recordExpected(p, list[:n])
				cuts++
			}
			cut, ok := impl.RecordCut(p, r, n)
			if ok != there || !sameRecord(cut, want) {
				t.Fatalf("RecordCut(%v, %v, %d) = %v, %v, want %v", p, r, n, cut, ok, want)
			}
			if begun, ok := impl.Replay(p, cut); there && (!ok || !slices.Equal(begun, list[:n])) {
				t.Fatalf("%v of %v, cut behind %d, is the recording of %v, %v", r, p, n, begun, ok)
			}
		}
	}
	if cuts < 1000 {
		t.Fatalf("only %d times it was cut", cuts)
	}
}

// rows returns slices and answers as they come, some of them with numbers that they may not have.
func (d *dice) rows() impl.Record {
	numbers := append(fieldsNear(), 0, 0, 0, 0, 0, 1, 1, 1, 2, 299, 300, 301)
	r := impl.Record{Answers: d.words(d.oneOf([]int{0, 0, 1, 2, 20, 1000}))}
	for k := d.oneOf([]int{0, 1, 2, 5, 300, 301, 1000}); k > 0; k-- {
		if d.below(4) == 0 {
			r.Slices = append(r.Slices, sliceOf(d.oneOf(numbers), d.oneOf(numbers), d.oneOf(numbers)))
		} else {
			r.Slices = append(r.Slices, sliceOf(d.below(2), d.below(2), 1+d.below(3)))
		}
	}
	return r
}

// fromTexts returns a program of texts, of which some are no instructions.
func (d *dice) fromTexts() impl.Program {
	texts := []string{"ask 0", "jump 0", "begin 0", "tell 1", "lock 0", "free 0", "call 0", "ret", "zero 0 0", "halt", "jump 00", "ask", "", "set 0 10000", "store 0 1 2"}
	p := impl.Program{Handler: d.oneOf([]int{-2, -1, -1, 0, 0, 1, 60})}
	for k := d.oneOf([]int{0, 1, 2, 3, 8, 60, 61, 1000}); k > 0; k-- {
		c, ok := impl.ReadCode(texts[d.below(len(texts))])
		if ok || d.below(40) == 0 {
			p.Rows = append(p.Rows, c)
		}
	}
	return p
}

func TestP160OverWhateverProgramsAndChoices(t *testing.T) {
	d := dice{seed: 48}
	good, bad := 0, 0
	for i := 0; i < 2500; i++ {
		p := d.mangledProgram(d.lively())
		if d.below(3) == 0 {
			p = d.fromTexts()
		}
		list := []impl.Choice{}
		if impl.ProgramOk(p) {
			list = d.longRun(p, d.oneOf([]int{0, 1, 3, 20, 300}))
		}
		if d.below(3) > 0 {
			list = d.mangledRun(list)
		}
		want, is := recordExpected(p, list)
		r, ok := impl.RecordOf(p, list)
		if ok != is || !sameRecord(r, want) {
			t.Fatalf("RecordOf(%v, %v) = %v, %v, want %v, %v", p, list, r, ok, want, is)
		}
		if !is {
			bad++
			continue
		}
		good++
		givesItsRun(t, p, list)
	}
	if good < 500 || bad < 500 {
		t.Fatalf("%d rows were runs, and %d were none", good, bad)
	}
}

func TestP161OverWhateverProgramsAndRows(t *testing.T) {
	d := dice{seed: 49}
	good, bad := 0, 0
	for i := 0; i < 6000; i++ {
		p := d.mangledProgram(d.lively())
		if d.below(3) == 0 {
			p = d.fromTexts()
		}
		r := d.rows()
		if d.below(2) == 0 && impl.ProgramOk(p) {
			r, _ = recordExpected(p, d.longRun(p, d.oneOf([]int{1, 3, 20, 300})))
			r = d.mangledRecord(r)
		}
		if recordAsExpected(t, p, r) {
			good++
			isRecordedSo(t, p, r)
		} else {
			bad++
		}
	}
	if good < 500 || bad < 500 {
		t.Fatalf("%d were recordings, and %d were none", good, bad)
	}
}

// goesOn fails if promise 7 is broken for two recordings that can be joined.
func goesOn(t *testing.T, p impl.Program, r impl.Record, more impl.Record) {
	t.Helper()
	first, ahead := impl.Replay(p, r)
	both, ok := impl.RecordJoin(p, r, more)
	list, all := impl.Replay(p, both)
	if !ahead || !ok || !all || len(list) < len(first) || !slices.Equal(list[:len(first)], first) {
		t.Fatalf("%v of %v leads through %v, and joined with %v through %v", r, p, first, more, list)
	}
	if cut, ok := impl.RecordCut(p, both, len(first)); !ok || !sameRecord(cut, r) {
		t.Fatalf("%v and %v of %v, cut behind %d, are %v, %v", r, more, p, len(first), cut, ok)
	}
}

func TestP162OverWhateverProgramsAndRows(t *testing.T) {
	d := dice{seed: 50}
	good, bad := 0, 0
	for i := 0; i < 5000; i++ {
		p := d.lively()
		list := d.longRun(p, d.oneOf([]int{0, 1, 3, 20, 300}))
		k := d.below(len(list) + 1)
		r, _ := recordExpected(p, list[:k])
		more := partRecord(p, machinesExpected(p, list)[k], list[k:])
		switch d.below(8) {
		case 0:
			r = d.mangledRecord(r)
		case 1, 2:
			more = d.mangledRecord(more)
		case 3:
			more = d.rows()
		case 4:
			p = d.mangledProgram(p)
		case 5:
			p = d.fromTexts()
		}
		if joinedAsExpected(t, p, r, more) {
			good++
			goesOn(t, p, r, more)
		} else {
			bad++
		}
	}
	if good < 500 || bad < 500 {
		t.Fatalf("%d were joined, and %d could not be", good, bad)
	}
}

// roomyRecord returns a recording with room behind its ends in which a write would be seen.
func roomyRecord(r impl.Record) impl.Record {
	list := append(make([]impl.Slice, 0, len(r.Slices)+2), r.Slices...)
	copy(list[len(list):cap(list)], []impl.Slice{sliceOf(-88, -88, -88), sliceOf(-88, -88, -88)})
	return impl.Record{Slices: list, Answers: roomy(r.Answers)}
}

// untouched reports whether a recording and the room behind its ends are as roomyRecord left them.
func untouched(r impl.Record, was impl.Record) bool {
	for _, s := range r.Slices[len(r.Slices):cap(r.Slices)] {
		if s != sliceOf(-88, -88, -88) {
			return false
		}
	}
	room := r.Answers[len(r.Answers):cap(r.Answers)]
	return sameInts(room, []int{-77, -78, -79}) && sameRecord(r, was)
}

// overwritten writes a number into all of recordings and the room behind their ends, another one into each.
func overwritten(list ...impl.Record) {
	for i, r := range list {
		all := r.Slices[:cap(r.Slices)]
		for k := range all {
			all[k] = sliceOf(-100-i, -100-i, -100-i)
		}
		answers := r.Answers[:cap(r.Answers)]
		for k := range answers {
			answers[k] = -100 - i
		}
	}
}

// keptApart reports whether recordings that were overwritten have each the number that was written into it.
func keptApart(list ...impl.Record) bool {
	for i, r := range list {
		for _, s := range r.Slices[:cap(r.Slices)] {
			if s != sliceOf(-100-i, -100-i, -100-i) {
				return false
			}
		}
		if !within(r.Answers[:cap(r.Answers)], -100-i, -100-i) {
			return false
		}
	}
	return true
}

func TestResultsOfStage4AreNew(t *testing.T) {
	d := dice{seed: 51}
	for i := 0; i < 400; i++ {
		p := d.lively()
		rows := append([]impl.Code{}, p.Rows...)
		wasList := d.longRun(p, d.oneOf([]int{0, 1, 2, 30}))
		k := d.below(len(wasList) + 1)
		wasFirst, _ := recordExpected(p, wasList[:k])
		wasMore := partRecord(p, machinesExpected(p, wasList)[k], wasList[k:])
		list := append(make([]impl.Choice, 0, len(wasList)+2), wasList...)
		copy(list[len(list):cap(list)], steps(-88, -88))
		first, more := roomyRecord(wasFirst), roomyRecord(wasMore)
		made := []impl.Record{}
		for n := 0; n < 2; n++ {
			whole, _ := impl.RecordOf(p, list)
			both, _ := impl.RecordJoin(p, first, more)
			behind, _ := impl.RecordJoin(p, first, impl.Record{})
			cut, _ := impl.RecordCut(p, first, k)
			begun, _ := impl.RecordCut(p, first, k/2)
			run, _ := impl.Replay(p, first)
			writtenInto(run)
			impl.RecordOk(p, more)
			impl.RecordSize(first)
			made = append(made, whole, both, behind, cut, begun)
		}
		overwritten(made...)
		if !keptApart(made...) {
			t.Fatalf("recordings of %v of %v share memory", wasList, p)
		}
		if !untouched(first, wasFirst) || !untouched(more, wasMore) {
			t.Fatalf("%v or %v was written to: %v, %v", wasFirst, wasMore, first, more)
		}
		if !slices.Equal(list, wasList) || !slices.Equal(list[len(list):cap(list)], steps(-88, -88)) {
			t.Fatalf("%v was written to: %v", wasList, list[:cap(list)])
		}
		if !slices.Equal(p.Rows, rows) {
			t.Fatalf("%v was written to: %v", rows, p.Rows)
		}
		givesItsRun(t, p, list)
	}
}

func TestWayOfRecordingsIsSlicesAndARowOfAnswers(t *testing.T) {
	// These are no conversions if a slice has another number, such as an answer.
	_ = struct{ Who, Kind, Many int }(impl.Slice{})
	_ = struct {
		Slices  []impl.Slice
		Answers []int
	}(impl.Record{})
	d := dice{seed: 52}
	for i := 0; i < 200; i++ {
		p := d.lively()
		list := d.longRun(p, 60)
		r, _ := impl.RecordOf(p, list)
		many := 0
		for k, s := range r.Slices {
			if k > 0 && s.Who == r.Slices[k-1].Who && s.Kind == r.Slices[k-1].Kind {
				t.Fatalf("slices %d and %d of %v could be one", k-1, k, r)
			}
			many += s.Many
		}
		if many != len(list) {
			t.Fatalf("%d choices are recorded as %v", len(list), r)
		}
	}
	calls := callsOf(newSource(t))
	for _, name := range []string{"RecordOf", "RecordOk", "Replay", "RecordCut", "RecordJoin"} {
		if !reaches(calls, name, "Do", map[string]bool{}) {
			t.Errorf("%s makes no choice", name)
		}
	}
}
