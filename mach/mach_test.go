package mach_test

import (
	"bytes"
	"iter"
	"math"
	"slices"
	"strings"
	"sync"
	"testing"

	"pentrough/api"
	"pentrough/clus"
	"pentrough/dec"
	"pentrough/flow"
	"pentrough/foldin"
	"pentrough/frame"
	"pentrough/mach"
	"pentrough/norm"
	"pentrough/sample"
	"pentrough/seg"
)

// some: values of many a kind: with a case, put together, dropped, of which several are made, marks, Hangul's, what controls, and what clusters are made of.
var some = []int{'a', 'E', 0xC9, 0xDF, 0xFB01, 0x301, 0x323, 0xAD, 0x34F, 0x200D, 0x1100, 0x1161, '\r', '\n', 0x600, 0x1F1E9, 0x1F600, 0xFFFD}

// odd: numbers that are no bytes, and those that are no values, Cut among them.
var odd = append(sample.Bad(), 0x100, 0x141, 0x1E2, -0xBF, -0x100, 1<<32-1, 1<<32+0x82, math.MinInt+0xE2)

// edges: bytes of forms of each length, first ones and later ones, and those that are in no form.
var edges = []byte{0, 'E', 0x81, 0x9F, 0xA9, 0xC3, 0xCC, 0xE2, 0xED, 0xF0, 0xF4, 0xFF}

// What the layers below tell is asked of them; what is made of it is told anew here, as near to the document's words as may be.

func wantNew(kind int) mach.State {
	if slices.Contains(sample.Machines(), kind) {
		return mach.State{Kind: kind}
	}
	return mach.State{}
}

func wantSane(s mach.State) bool {
	noD, noN := s.D == dec.State{}, len(s.N.L) == 0
	noG, noC := len(s.G.C) == 0 && s.G.S == clus.State{}, len(s.C) == 0
	switch s.Kind {
	case 0:
		return dec.Sane(s.D) && noN && noG && noC
	case 1, 2:
		return norm.Sane(s.N) && noD && noG && noC
	case 3:
		return seg.Sane(s.G) && noD && noN && noC
	case 4:
		return len(s.C) <= 32 && !slices.Contains(s.C, -1) && noD && noN && noG
	}
	return false
}

// wantKnown tells what a State counts as.
func wantKnown(s mach.State) mach.State {
	if wantSane(s) {
		return s
	}
	return wantNew(s.Kind)
}

func wantFeed(s mach.State, x int) (mach.State, []int) {
	s = wantKnown(s)
	var told []int
	switch s.Kind {
	case 0:
		s.D, told = dec.Feed(s.D, byte((x%256+256)%256))
	case 1:
		s.N, told = norm.Feed(s.N, x)
	case 2:
		s.N, told = foldin.Feed(s.N, x)
	case 3:
		s.G, told = seg.Feed(s.G, x)
		told = wantCut(told)
	case 4:
		switch {
		case x == -1:
			told = sample.Items(frame.Put(s.C))
			s.C = nil
		case len(s.C) < 32:
			s.C = slices.Concat(s.C, []int{x})
		}
	}
	return s, told
}

func wantEnd(s mach.State) (mach.State, []int) {
	s = wantKnown(s)
	var told []int
	switch s.Kind {
	case 0:
		told = dec.End(s.D)
	case 1, 2:
		told = norm.End(s.N)
	case 3:
		told = wantCut(seg.End(s.G))
	}
	return wantNew(s.Kind), told
}

// wantCut lays Cut behind a cluster, if there is one.
func wantCut(c []int) []int {
	if len(c) > 0 {
		return slices.Concat(c, []int{-1})
	}
	return nil
}

func wantCost(s mach.State) int {
	s = wantKnown(s)
	return len(s.D.B) + len(s.N.L) + len(s.G.C) + len(s.C)
}

// wantAll tells All by what the layers tell of a whole list.
func wantAll(kind int, l []int) []int {
	var all []int
	switch kind {
	case 1:
		return norm.All(l)
	case 2:
		return foldin.All(l)
	case 3:
		for _, c := range seg.All(l) {
			all = append(all, wantCut(c)...)
		}
		return all
	case 4:
		parts := cutAt(l)
		for _, c := range parts[:len(parts)-1] {
			all = append(all, sample.Items(frame.Put(c[:min(len(c), 32)]))...)
		}
		return all
	}
	var b []byte
	for _, x := range l {
		b = append(b, byte(x&0xFF))
	}
	return dec.All(b)
}

// cutAt tells what stands ahead of each Cut, and behind the last one.
func cutAt(l []int) [][]int {
	var parts [][]int
	from := 0
	for k, x := range l {
		if x == -1 {
			parts = append(parts, l[from:k])
			from = k + 1
		}
	}
	return append(parts, l[from:])
}

// text tells the text of values.
func text(l ...int) []byte { return []byte(dec.Text(l)) }

// checkState holds the calls that are handed a State, at one.
func checkState(t *testing.T, s mach.State, items ...int) {
	t.Helper()
	if sane, want := mach.Sane(s), wantSane(s); sane != want {
		t.Fatalf("Sane(%+v) = %v; want %v", s, sane, want)
	}
	if cost, want := mach.Cost(s), wantCost(s); cost != want {
		t.Fatalf("Cost(%+v) = %d; want %d", s, cost, want)
	}
	left, told := mach.End(s)
	if wantLeft, want := wantEnd(s); !sample.SameMachine(left, wantLeft) || !slices.Equal(told, want) {
		t.Fatalf("End(%+v) = %+v, %#x; want %+v, %#x", s, left, told, wantLeft, want)
	}
	for _, x := range items {
		next, told := mach.Feed(s, x)
		if wantNext, want := wantFeed(s, x); !sample.SameMachine(next, wantNext) || !slices.Equal(told, want) {
			t.Fatalf("Feed(%+v, %#x) = %+v, %#x; want %+v, %#x", s, x, next, told, wantNext, want)
		}
		if !mach.Sane(next) || mach.Cost(next) > 32 {
			t.Fatalf("Feed(%+v, %#x) leaves %+v, which keeps %d; it is Sane: %v", s, x, next, mach.Cost(next), mach.Sane(next))
		}
	}
}

// check holds All of a kind, and item by item what Feed and End tell, at one list.
func check(t *testing.T, kind int, l []int) {
	t.Helper()
	s := mach.New(kind)
	var told []int
	for k, x := range l {
		checkState(t, s, x)
		var more []int
		s, more = mach.Feed(s, x)
		told = append(told, more...)
		_, last := mach.End(s)
		if all, want := slices.Concat(told, last), wantAll(s.Kind, l[:k+1]); !slices.Equal(all, want) {
			t.Fatalf("of %#x machine %d told %#x; want %#x", l[:k+1], kind, all, want)
		}
	}
	checkAll(t, kind, l)
}

// checkAll holds All alone.
func checkAll(t *testing.T, kind int, l []int) {
	t.Helper()
	if all, want := mach.All(kind, l), wantAll(kind, l); !slices.Equal(all, want) {
		t.Fatalf("All(%d, %#x) = %#x; want %#x", kind, l, all, want)
	}
}

// What the fields of a State may hold: nothing, something that may be, and what may not.

func someD() []dec.State {
	return []dec.State{{}, {B: "\xe2"}, {B: "\xf0\x9f\x98"}, {B: "\xff"}, {B: "ab"}, {B: "\xe2\x82\xac"}}
}

func someN() []norm.State {
	return []norm.State{{}, {L: []int{}}, {L: []int{'e'}}, {L: []int{'e', 0x301}}, {L: sample.Row(30)}, {L: append([]int{-1}, sample.Row(30)...)}, {L: sample.Row(31)}, {L: []int{'a', 'b'}}, {L: []int{0x301, 0x323}}}
}

func someG() []seg.State {
	return []seg.State{{}, {C: []int{}}, {C: []int{'a'}, S: sample.ClusState("o")}, {C: []int{0x1F600, 0x200D}, S: sample.ClusState("xz")}, {C: sample.Row(32), S: sample.ClusState("e")}, {C: sample.Row(33), S: sample.ClusState("e")}, {C: []int{'a'}}, {S: sample.ClusState("i")}, {S: clus.State{Odd: true}}}
}

func someC() [][]int {
	return [][]int{nil, {}, {'a'}, {'e', 0x301}, {-2, 0xD800}, sample.Row(31), sample.Row(32), sample.Row(33), {-1}, {'a', -1, 'b'}, append(sample.Row(31), -1)}
}

// states ranges over each choice of what the fields may hold, of some kinds.
func states(kinds []int) iter.Seq[mach.State] {
	return func(yield func(mach.State) bool) {
		for _, kind := range kinds {
			for _, d := range someD() {
				for _, n := range someN() {
					for _, g := range someG() {
						for _, c := range someC() {
							if !yield(mach.State{Kind: kind, D: d, N: n, G: g, C: c}) {
								return
							}
						}
					}
				}
			}
		}
	}
}

// P15.1

func TestNumbers(t *testing.T) {
	if l := []int{mach.Decode, mach.Norm, mach.Fold, mach.Segment, mach.Framer, mach.Cut}; !slices.Equal(l, []int{0, 1, 2, 3, 4, -1}) {
		t.Errorf("the machines, and Cut, are %d", l)
	}
}

func TestNew(t *testing.T) {
	for _, kind := range sample.Machines() {
		if s := mach.New(kind); !sample.SameMachine(s, mach.State{Kind: kind}) || !mach.Sane(s) {
			t.Errorf("New(%d) = %+v", kind, s)
		}
	}
	for _, kind := range sample.NoMachines() {
		if s := mach.New(kind); !sample.SameMachine(s, mach.State{}) {
			t.Errorf("New(%d) = %+v", kind, s)
		}
	}
}

func TestSaneByHand(t *testing.T) {
	on := sample.ClusState("o")
	for _, x := range []struct {
		s    mach.State
		sane bool
	}{
		{mach.State{}, true}, {mach.State{Kind: 1}, true}, {mach.State{Kind: 2}, true}, {mach.State{Kind: 3}, true}, {mach.State{Kind: 4}, true},
		{mach.State{Kind: 5}, false}, {mach.State{Kind: -1}, false}, {mach.State{Kind: math.MinInt}, false}, {mach.State{Kind: math.MaxInt}, false}, {mach.State{Kind: 1 << 32}, false},
		// Each keeps its own.
		{mach.State{Kind: 0, D: dec.State{B: "\xe2\x82"}}, true}, {mach.State{Kind: 0, D: dec.State{B: "\xf0\x9f\x98"}}, true},
		{mach.State{Kind: 1, N: norm.State{L: []int{'e', 0x301}}}, true}, {mach.State{Kind: 1, N: norm.State{L: append([]int{'e'}, sample.Row(30)...)}}, true},
		{mach.State{Kind: 2, N: norm.State{L: []int{'e', 0x301}}}, true}, {mach.State{Kind: 2, N: norm.State{L: sample.Row(30)}}, true},
		{mach.State{Kind: 3, G: seg.State{C: []int{'a'}, S: on}}, true}, {mach.State{Kind: 3, G: seg.State{C: sample.Row(32), S: sample.ClusState("e")}}, true},
		{mach.State{Kind: 4, C: []int{'a'}}, true}, {mach.State{Kind: 4, C: sample.Row(32)}, true}, {mach.State{Kind: 4, C: []int{-2, 0xD800, math.MinInt, math.MaxInt}}, true},
		// A list without elements is none.
		{mach.State{Kind: 0, N: norm.State{L: []int{}}, G: seg.State{C: []int{}}, C: []int{}}, true}, {mach.State{Kind: 4, N: norm.State{L: []int{}}, C: []int{}}, true},
		// None keeps what is another's.
		{mach.State{Kind: 1, D: dec.State{B: "\xe2"}}, false}, {mach.State{Kind: 2, D: dec.State{B: "\xe2"}}, false}, {mach.State{Kind: 3, D: dec.State{B: "\xe2"}}, false}, {mach.State{Kind: 4, D: dec.State{B: "\xe2"}}, false},
		{mach.State{Kind: 0, N: norm.State{L: []int{'a'}}}, false}, {mach.State{Kind: 3, N: norm.State{L: []int{'a'}}}, false}, {mach.State{Kind: 4, N: norm.State{L: []int{'a'}}}, false},
		{mach.State{Kind: 0, G: seg.State{C: []int{'a'}, S: on}}, false}, {mach.State{Kind: 1, G: seg.State{C: []int{'a'}, S: on}}, false}, {mach.State{Kind: 2, G: seg.State{C: []int{'a'}, S: on}}, false}, {mach.State{Kind: 4, G: seg.State{C: []int{'a'}, S: on}}, false},
		{mach.State{Kind: 0, C: []int{'a'}}, false}, {mach.State{Kind: 1, C: []int{'a'}}, false}, {mach.State{Kind: 2, C: []int{'a'}}, false}, {mach.State{Kind: 3, C: []int{'a'}}, false},
		{mach.State{Kind: 0, G: seg.State{S: on}}, false}, {mach.State{Kind: 4, G: seg.State{S: clus.State{Kind: 1}}}, false}, {mach.State{Kind: 1, G: seg.State{S: clus.State{Pict: true}}}, false},
		{mach.State{Kind: 3, G: seg.State{C: []int{'a'}, S: on}, C: []int{'a'}}, false}, {mach.State{Kind: 0, D: dec.State{B: "\xe2"}, C: []int{'a'}}, false},
		// Nor what no machine may keep.
		{mach.State{Kind: 0, D: dec.State{B: "\xff"}}, false}, {mach.State{Kind: 0, D: dec.State{B: "a"}}, false}, {mach.State{Kind: 0, D: dec.State{B: "\xe2\x82\xac"}}, false},
		{mach.State{Kind: 1, N: norm.State{L: []int{'a', 'b'}}}, false}, {mach.State{Kind: 2, N: norm.State{L: sample.Row(31)}}, false}, {mach.State{Kind: 2, N: norm.State{L: []int{0x301, 0x323}}}, false},
		{mach.State{Kind: 3, G: seg.State{C: []int{'a'}}}, false}, {mach.State{Kind: 3, G: seg.State{S: on}}, false}, {mach.State{Kind: 3, G: seg.State{C: sample.Row(33), S: on}}, false},
		{mach.State{Kind: 4, C: sample.Row(33)}, false}, {mach.State{Kind: 4, C: []int{-1}}, false}, {mach.State{Kind: 4, C: []int{-1, 'a'}}, false}, {mach.State{Kind: 4, C: append(sample.Row(31), -1)}, false}, {mach.State{Kind: 4, C: sample.Row(1 << 16)}, false},
	} {
		if sane := mach.Sane(x.s); sane != x.sane {
			t.Errorf("Sane(%+v) = %v", x.s, sane)
		}
		checkState(t, x.s, slices.Concat(some, odd)...)
	}
}

// Each choice of what a State may hold, Sane or not, of each kind, and of none.
func TestEveryState(t *testing.T) {
	for s := range states(slices.Concat(sample.Machines(), []int{-1, 5, 1 << 32, math.MinInt})) {
		checkState(t, s, 'E', 0xCC, 0x301, -1, -0xBF)
	}
}

// What is not Sane counts as what is new of its kind, and one that is no machine as one that decodes.
func TestInsaneStates(t *testing.T) {
	for _, x := range []struct {
		s    mach.State
		x    int
		next mach.State
		told []int
	}{
		{mach.State{Kind: 9, C: []int{'a'}}, 0xE2, mach.State{Kind: 0, D: dec.State{B: "\xe2"}}, nil},
		{mach.State{Kind: -1, N: norm.State{L: []int{'a'}}}, 'b', mach.State{}, []int{'b'}},
		{mach.State{Kind: 5, D: dec.State{B: "\xc3"}}, 0xA9, mach.State{}, []int{0xFFFD}},
		{mach.State{Kind: 0, D: dec.State{B: "\xff"}}, 'b', mach.State{}, []int{'b'}},
		{mach.State{Kind: 0, D: dec.State{B: "\xc3"}, C: []int{'a'}}, 0xA9, mach.State{}, []int{0xFFFD}},
		{mach.State{Kind: 1, N: norm.State{L: []int{'a'}}, C: []int{'a'}}, 'b', mach.State{Kind: 1, N: norm.State{L: []int{'b'}}}, nil},
		{mach.State{Kind: 2, N: norm.State{L: []int{'a', 'b'}}}, 0xAD, mach.State{Kind: 2}, nil},
		{mach.State{Kind: 2, N: norm.State{L: []int{'a'}}, D: dec.State{B: "\xc3"}}, 'B', mach.State{Kind: 2, N: norm.State{L: []int{'b'}}}, nil},
		{mach.State{Kind: 3, G: seg.State{C: []int{'a'}}}, 'b', mach.State{Kind: 3, G: seg.State{C: []int{'b'}, S: sample.ClusState("o")}}, nil},
		{mach.State{Kind: 3, G: seg.State{C: []int{'a'}, S: sample.ClusState("o")}, N: norm.State{L: []int{'a'}}}, 'b', mach.State{Kind: 3, G: seg.State{C: []int{'b'}, S: sample.ClusState("o")}}, nil},
		{mach.State{Kind: 4, C: sample.Row(33)}, -1, mach.State{Kind: 4}, nil},
		{mach.State{Kind: 4, C: []int{'a', -1}}, 'b', mach.State{Kind: 4, C: []int{'b'}}, nil},
		{mach.State{Kind: 4, C: []int{'a'}, G: seg.State{S: sample.ClusState("o")}}, -1, mach.State{Kind: 4}, nil},
	} {
		if next, told := mach.Feed(x.s, x.x); !sample.SameMachine(next, x.next) || !slices.Equal(told, x.told) {
			t.Errorf("Feed(%+v, %#x) = %+v, %#x; want %+v, %#x", x.s, x.x, next, told, x.next, x.told)
		}
		if left, told := mach.End(x.s); !sample.SameMachine(left, wantNew(x.s.Kind)) || len(told) > 0 {
			t.Errorf("End(%+v) = %+v, %#x", x.s, left, told)
		}
		if cost := mach.Cost(x.s); cost != 0 {
			t.Errorf("Cost(%+v) = %d", x.s, cost)
		}
	}
}

// P15.2

// The document's example, item by item.
func TestExample(t *testing.T) {
	s := mach.New(mach.Segment)
	for k, want := range [][]int{nil, nil, {0x65, 0x301, mach.Cut}} {
		var told []int
		if s, told = mach.Feed(s, []int{0x65, 0x301, 0x66}[k]); !slices.Equal(told, want) {
			t.Errorf("of item %d was told %#x; want %#x", k, told, want)
		}
	}
	if _, told := mach.End(s); !slices.Equal(told, []int{0x66, mach.Cut}) {
		t.Errorf("of the end was told %#x", told)
	}
}

func TestFeedByHand(t *testing.T) {
	full, o := sample.Row(32), sample.ClusState("o")
	for _, x := range []struct {
		s    mach.State
		x    int
		next mach.State
		told []int
	}{
		{mach.State{}, 'A', mach.State{}, []int{'A'}},
		{mach.State{}, 0xE2, mach.State{D: dec.State{B: "\xe2"}}, nil},
		{mach.State{D: dec.State{B: "\xe2\x82"}}, 0xAC, mach.State{}, []int{0x20AC}},
		{mach.State{D: dec.State{B: "\xe2\x82"}}, 'A', mach.State{}, []int{0xFFFD, 'A'}},
		{mach.State{D: dec.State{B: "\xe2\x82"}}, 0xCC, mach.State{D: dec.State{B: "\xcc"}}, []int{0xFFFD}},
		// Bytes are taken modulo 256.
		{mach.State{}, 0x141, mach.State{}, []int{'A'}}, {mach.State{}, -0xBF, mach.State{}, []int{'A'}}, {mach.State{}, 1<<32 + 'A', mach.State{}, []int{'A'}},
		{mach.State{}, -1, mach.State{}, []int{0xFFFD}}, {mach.State{}, math.MinInt, mach.State{}, []int{0}}, {mach.State{}, math.MaxInt, mach.State{}, []int{0xFFFD}}, {mach.State{}, 0x20AC, mach.State{}, []int{0xFFFD}},
		{mach.State{D: dec.State{B: "\xc3"}}, -0x57, mach.State{}, []int{0xE9}},
		{mach.State{Kind: 1}, 'E', mach.State{Kind: 1, N: norm.State{L: []int{'E'}}}, nil},
		{mach.State{Kind: 1, N: norm.State{L: []int{'E'}}}, 0x301, mach.State{Kind: 1, N: norm.State{L: []int{'E', 0x301}}}, nil},
		{mach.State{Kind: 1, N: norm.State{L: []int{'E', 0x301}}}, 'F', mach.State{Kind: 1, N: norm.State{L: []int{'F'}}}, []int{0xC9}},
		{mach.State{Kind: 1, N: norm.State{L: []int{'E'}}}, 0xAD, mach.State{Kind: 1, N: norm.State{L: []int{0xAD}}}, []int{'E'}},
		{mach.State{Kind: 1}, -1, mach.State{Kind: 1, N: norm.State{L: []int{-1}}}, nil},
		{mach.State{Kind: 2}, 'E', mach.State{Kind: 2, N: norm.State{L: []int{'e'}}}, nil},
		{mach.State{Kind: 2, N: norm.State{L: []int{'e'}}}, 0xAD, mach.State{Kind: 2, N: norm.State{L: []int{'e'}}}, nil},
		{mach.State{Kind: 2, N: norm.State{L: []int{'e', 0x301}}}, 0xDF, mach.State{Kind: 2, N: norm.State{L: []int{'s'}}}, []int{0xE9, 's'}},
		{mach.State{Kind: 2, N: norm.State{L: []int{'e'}}}, -1, mach.State{Kind: 2, N: norm.State{L: []int{-1}}}, []int{'e'}},
		{mach.State{Kind: 3}, 'E', mach.State{Kind: 3, G: seg.State{C: []int{'E'}, S: o}}, nil},
		{mach.State{Kind: 3, G: seg.State{C: []int{'E'}, S: o}}, 0x301, mach.State{Kind: 3, G: seg.State{C: []int{'E', 0x301}, S: sample.ClusState("oe")}}, nil},
		{mach.State{Kind: 3, G: seg.State{C: []int{'E', 0x301}, S: sample.ClusState("oe")}}, 'b', mach.State{Kind: 3, G: seg.State{C: []int{'b'}, S: o}}, []int{'E', 0x301, -1}},
		{mach.State{Kind: 3, G: seg.State{C: full, S: sample.ClusState("e")}}, 0x302, mach.State{Kind: 3, G: seg.State{C: []int{0x302}, S: sample.ClusState("e")}}, slices.Concat(full, []int{-1})},
		// Between values Cut is a number like any other that is none.
		{mach.State{Kind: 3, G: seg.State{C: []int{'E'}, S: o}}, -1, mach.State{Kind: 3, G: seg.State{C: []int{-1}, S: o}}, []int{'E', -1}},
		{mach.State{Kind: 3, G: seg.State{C: []int{-1}, S: o}}, -1, mach.State{Kind: 3, G: seg.State{C: []int{-1}, S: o}}, []int{-1, -1}},
		{mach.State{Kind: 4}, 'e', mach.State{Kind: 4, C: []int{'e'}}, nil},
		{mach.State{Kind: 4, C: []int{'e'}}, 0x301, mach.State{Kind: 4, C: []int{'e', 0x301}}, nil},
		{mach.State{Kind: 4, C: []int{'e', 0x301}}, -1, mach.State{Kind: 4}, []int{3, 0x65, 0xCC, 0x81}},
		{mach.State{Kind: 4}, -1, mach.State{Kind: 4}, nil},
		{mach.State{Kind: 4, C: []int{'e'}}, -2, mach.State{Kind: 4, C: []int{'e', -2}}, nil},
		{mach.State{Kind: 4, C: []int{-2}}, -1, mach.State{Kind: 4}, []int{3, 0xEF, 0xBF, 0xBD}},
		{mach.State{Kind: 4}, 1<<32 - 1, mach.State{Kind: 4, C: []int{1<<32 - 1}}, nil},
		// Behind as many values as may be none is laid, and only Cut ends them.
		{mach.State{Kind: 4, C: sample.Row(31)}, 0x301, mach.State{Kind: 4, C: full}, nil},
		{mach.State{Kind: 4, C: full}, 'a', mach.State{Kind: 4, C: full}, nil},
		{mach.State{Kind: 4, C: full}, -1, mach.State{Kind: 4}, append([]int{64}, slices.Repeat([]int{0xCC, 0x81}, 32)...)},
		{mach.State{Kind: 4, C: slices.Repeat([]int{0x1F3FD}, 32)}, -1, mach.State{Kind: 4}, append([]int{0x80, 1}, slices.Repeat([]int{0xF0, 0x9F, 0x8F, 0xBD}, 32)...)},
	} {
		if next, told := mach.Feed(x.s, x.x); !sample.SameMachine(next, x.next) || !slices.Equal(told, x.told) {
			t.Errorf("Feed(%+v, %#x) = %+v, %#x; want %+v, %#x", x.s, x.x, next, told, x.next, x.told)
		}
		checkState(t, x.s, x.x)
	}
}

// Every value, and many numbers beside them, as an item of each machine, at its beginning, behind something, and behind as much as may be.
func TestEveryNumber(t *testing.T) {
	all := append(sample.Begun(), mach.State{Kind: 4, C: sample.Row(32)}, mach.State{Kind: 4, C: sample.Row(33)})
	for _, kind := range sample.Machines() {
		all = append(all, mach.New(kind))
	}
	for x := range sample.Numbers() {
		if x > 0x3100 && x%0x1F > 0 {
			continue // what is alike is tried here and there
		}
		for _, s := range all {
			checkState(t, s, x)
		}
	}
}

// P15.3

func TestEndByHand(t *testing.T) {
	full := sample.Row(32)
	for _, x := range []struct {
		s    mach.State
		told []int
		cost int
	}{
		{mach.State{}, nil, 0}, {mach.State{Kind: 1}, nil, 0}, {mach.State{Kind: 2}, nil, 0}, {mach.State{Kind: 3}, nil, 0}, {mach.State{Kind: 4}, nil, 0},
		{mach.State{D: dec.State{B: "\xe2"}}, []int{0xFFFD}, 1}, {mach.State{D: dec.State{B: "\xf0\x9f\x98"}}, []int{0xFFFD}, 3},
		{mach.State{Kind: 1, N: norm.State{L: []int{'E', 0x301}}}, []int{0xC9}, 2}, {mach.State{Kind: 1, N: norm.State{L: full[:30]}}, full[:30], 30},
		{mach.State{Kind: 2, N: norm.State{L: []int{'E', 0x301}}}, []int{0xC9}, 2}, {mach.State{Kind: 2, N: norm.State{L: append([]int{'q'}, full[:30]...)}}, append([]int{'q'}, full[:30]...), 31},
		{mach.State{Kind: 3, G: seg.State{C: []int{'E', 0x301}, S: sample.ClusState("oe")}}, []int{'E', 0x301, -1}, 2}, {mach.State{Kind: 3, G: seg.State{C: full, S: sample.ClusState("e")}}, slices.Concat(full, []int{-1}), 32},
		// What no Cut came behind is no cluster.
		{mach.State{Kind: 4, C: []int{'e', 0x301}}, nil, 2}, {mach.State{Kind: 4, C: full}, nil, 32},
		// What is not Sane is nothing.
		{mach.State{Kind: 5, D: dec.State{B: "\xe2"}}, nil, 0}, {mach.State{Kind: 4, C: sample.Row(33)}, nil, 0}, {mach.State{Kind: 3, C: []int{'a'}}, nil, 0}, {mach.State{Kind: 1, N: norm.State{L: []int{'a', 'b'}}}, nil, 0},
	} {
		left, told := mach.End(x.s)
		if !sample.SameMachine(left, wantNew(x.s.Kind)) || !slices.Equal(told, x.told) {
			t.Errorf("End(%+v) = %+v, %#x; want %#x", x.s, left, told, x.told)
		}
		if cost := mach.Cost(x.s); cost != x.cost {
			t.Errorf("Cost(%+v) = %d; want %d", x.s, cost, x.cost)
		}
	}
}

func TestAllByHand(t *testing.T) {
	for _, x := range []struct {
		kind    int
		l, told []int
	}{
		{0, []int{0xE2, 0x82, 0x41}, []int{0xFFFD, 0x41}}, {0, []int{0xE2, 0x82, 0xAC, 0xCC}, []int{0x20AC, 0xFFFD}}, {0, []int{-1, 0x1C3, 0x2A9, -0x9F}, []int{0xFFFD, 0xE9, 0x61}},
		{1, []int{'E', 0x301, 0xAD, 0xFB01}, []int{0xC9, 0xAD, 'f', 'i'}}, {1, []int{'A', 0x302, 0x323}, []int{0x1EAC}},
		{2, []int{'E', 0xAD, 0x301, 0xDF}, []int{0xE9, 's', 's'}}, {2, []int{0x200D, 0x34F}, nil},
		{3, []int{'\r', '\n', 'a', 0x301, 0x1F1E9, 0x1F1EA, 0x1F1E9}, []int{'\r', '\n', -1, 'a', 0x301, -1, 0x1F1E9, 0x1F1EA, -1, 0x1F1E9, -1}}, {3, []int{-1, -1}, []int{-1, -1, -1, -1}},
		{4, []int{'e', 0x301, -1, 'f', -1}, []int{3, 0x65, 0xCC, 0x81, 1, 0x66}}, {4, []int{-1, 'e', -1, -1, 'f', -1, 'g'}, []int{1, 0x65, 1, 0x66}}, {4, []int{0xD800, -2, -1}, []int{6, 0xEF, 0xBF, 0xBD, 0xEF, 0xBF, 0xBD}},
		{4, slices.Concat(slices.Repeat([]int{'a'}, 40), []int{-1, 'b', -1}), slices.Concat([]int{32}, slices.Repeat([]int{'a'}, 32), []int{1, 'b'})}, {4, sample.Row(40), nil},
		{5, []int{0xC3, 0xA9}, []int{0xE9}}, {math.MinInt, []int{0xC3, 0xA9}, []int{0xE9}},
	} {
		if told := mach.All(x.kind, x.l); !slices.Equal(told, x.told) {
			t.Errorf("All(%d, %#x) = %#x; want %#x", x.kind, x.l, told, x.told)
		}
		check(t, x.kind, x.l)
	}
	for _, kind := range slices.Concat(sample.Machines(), sample.NoMachines()) {
		if len(mach.All(kind, nil)) > 0 || len(mach.All(kind, []int{})) > 0 {
			t.Errorf("All(%d) of none tells something", kind)
		}
	}
}

func TestShortLists(t *testing.T) {
	for _, kind := range sample.Machines() {
		for _, lists := range []iter.Seq[[]int]{sample.Lists(append(some, -1, -2), 3), sample.Lists(sample.Items(edges), 4), sample.Lists([]int{'E', 0x301, -1}, 6), sample.Lists(odd, 2)} {
			for l := range lists {
				check(t, kind, l)
			}
		}
	}
	for _, kind := range sample.NoMachines() {
		for l := range sample.Lists(sample.Items(edges), 2) {
			check(t, kind, l)
		}
	}
}

func TestHardLists(t *testing.T) {
	for l := range sample.Hard() {
		for _, kind := range sample.Machines() {
			checkAll(t, kind, l)
		}
	}
}

// Of the lengths beside those at which something is cut.
func TestLengths(t *testing.T) {
	for _, kind := range sample.Machines() {
		for _, x := range some {
			for n := range 70 {
				l := slices.Repeat([]int{x}, n)
				checkAll(t, kind, l)
				checkAll(t, kind, slices.Concat(l, []int{mach.Cut}, l[:n/2], []int{mach.Cut, x}))
			}
			check(t, kind, slices.Repeat([]int{x}, 70))
		}
	}
}

// What is told hangs on no more of what came than the State tells, which may be copied anywhere; and behind the end a machine is new.
func TestGoingOn(t *testing.T) {
	l := slices.Concat(sample.Items(text('E', 0x301, 0xDF, 0x1F600)), some, sample.Row(40), []int{mach.Cut, 'a', mach.Cut}, some)
	for _, kind := range sample.Machines() {
		for k := range l {
			s := mach.New(kind)
			var told []int
			for n, x := range l {
				if n == k {
					s = sample.CopyMachine(s)
				}
				var more []int
				s, more = mach.Feed(s, x)
				told = append(told, more...)
			}
			s, last := mach.End(s)
			if all := mach.All(kind, l); !slices.Equal(slices.Concat(told, last), all) {
				t.Fatalf("copied at %d, machine %d told %#x, %#x; want %#x", k, kind, told, last, all)
			}
			checkState(t, s, l[k])
		}
	}
}

// P15.4

// checkPipe holds that all of all five, one behind the other, and what five tell that are handed each item as soon as it is told, is F; what was told is a beginning of it at each step, and none keeps too much.
func checkPipe(t *testing.T, b []byte) {
	t.Helper()
	f, all := sample.Items(flow.F(b)), sample.Items(b)
	for _, kind := range sample.Machines() {
		all = mach.All(kind, all)
	}
	if !slices.Equal(all, f) {
		t.Fatalf("all of all five of % x is % x; F is % x", b, all, f)
	}
	r := newRow()
	for _, c := range b {
		r.feed(0, int(c))
		r.check(t, f)
	}
	for kind := range sample.Machines() {
		r.end(kind)
		r.check(t, f)
	}
	if !slices.Equal(r.told, f) {
		t.Fatalf("of % x five machines told % x; F is % x", b, r.told, f)
	}
}

// A row is the five machines, each of which hands on what it tells at once.
type row struct {
	machines []mach.State
	told     []int
}

func newRow() *row {
	r := &row{}
	for _, kind := range sample.Machines() {
		r.machines = append(r.machines, mach.New(kind))
	}
	return r
}

func (r *row) feed(k, x int) {
	if k == len(r.machines) {
		r.told = append(r.told, x)
		return
	}
	var told []int
	r.machines[k], told = mach.Feed(r.machines[k], x)
	r.hand(k+1, told)
}

func (r *row) end(k int) {
	var told []int
	r.machines[k], told = mach.End(r.machines[k])
	r.hand(k+1, told)
}

func (r *row) hand(k int, items []int) {
	for _, x := range items {
		r.feed(k, x)
	}
}

func (r *row) check(t *testing.T, f []int) {
	t.Helper()
	if len(r.told) > len(f) || !slices.Equal(r.told, f[:len(r.told)]) {
		t.Fatalf("told is % x; F is % x", r.told, f)
	}
	for _, s := range r.machines {
		if !mach.Sane(s) || mach.Cost(s) > 32 {
			t.Fatalf("%+v keeps %d; it is Sane: %v", s, mach.Cost(s), mach.Sane(s))
		}
	}
}

// The document's examples of the whole.
func TestPipeByHand(t *testing.T) {
	for _, x := range []struct{ b, f string }{
		{"", ""}, {"E\u0301", "\x02\u00e9"}, {"AB", "\x01a\x01b"}, {"\u00ad", ""}, {"A\xe2\x82B", "\x01a\x03\ufffd\x01b"}, {"\r\n\u212b", "\x02\r\n\x02\u00e5"},
		{"Q" + strings.Repeat("\u0301", 31), "\x3fq" + strings.Repeat("\u0301", 30) + "\u034f\x02\u0301"},
	} {
		r := newRow()
		r.hand(0, sample.Items([]byte(x.b)))
		for kind := range sample.Machines() {
			r.end(kind)
		}
		if want := sample.Items([]byte(x.f)); !slices.Equal(r.told, want) {
			t.Errorf("of %+q five machines told % x; want % x", x.b, r.told, want)
		}
		checkPipe(t, []byte(x.b))
	}
	// Without the end nothing is told of what may still be changed.
	r := newRow()
	r.hand(0, sample.Items([]byte("AB")))
	if len(r.told) > 0 {
		t.Errorf("of AB, and no end, was told % x", r.told)
	}
}

func TestPipe(t *testing.T) {
	for _, rows := range []iter.Seq[[]byte]{sample.Lists(sample.Bytes(), 2), sample.Lists(edges, 3)} {
		for b := range rows {
			checkPipe(t, b)
		}
	}
	for l := range sample.Lists(some, 2) {
		checkPipe(t, text(l...))
	}
	n := 0
	for l := range sample.Hard() {
		if n++; n%7 == 0 {
			checkPipe(t, text(l...))
		}
	}
	b := text(slices.Concat([]int{'S', 0xDF, 0xFF21, 0x30A, 0x323}, sample.Row(33), some, sample.Strewn(70), slices.Repeat([]int{0x1F3FD}, 40))...)
	for k := range b {
		checkPipe(t, b[:k])
		checkPipe(t, b[k:])
	}
}

// No more is kept of many items than of few, and each machine ends as soon, for their number.
func TestGreatLists(t *testing.T) {
	for _, kind := range sample.Machines() {
		for _, few := range [][]int{{'E'}, {0xE2, 0x82, 0xAC}, {0xE2}, {'E', 0x301}, {0x301}, {0x1F1E9}, {'a', mach.Cut}, {mach.Cut}, {0x600}} {
			l := slices.Repeat(few, 1<<13)
			checkAll(t, kind, l)
			s := mach.New(kind)
			for _, x := range l {
				if s, _ = mach.Feed(s, x); mach.Cost(s) > 32 {
					t.Fatalf("of many of %#x machine %d keeps %d", few, kind, mach.Cost(s))
				}
			}
		}
	}
	checkPipe(t, bytes.Repeat(text('E', 0x301, 0xDF, '\r', '\n', 0x1F1E9), 1<<9))
}

// P1, R3

// Nothing is kept: who changes an answer changes no other one, nor what was handed in, nor what stands behind this in its memory.
func TestAnswersApart(t *testing.T) {
	for _, given := range append(sample.Begun(), mach.State{Kind: 4, C: sample.Row(32)}, mach.State{Kind: 9, C: sample.Row(3)}) {
		spares := [][]int{slices.Concat(given.N.L, sample.Row(40)), slices.Concat(given.G.C, sample.Row(40)), slices.Concat(given.C, sample.Row(40))}
		s := given
		s.N.L, s.G.C, s.C = spares[0][:len(given.N.L)], spares[1][:len(given.G.C)], spares[2][:len(given.C)]
		for _, x := range slices.Concat(some, []int{mach.Cut, 0xAC}) {
			first, told := mach.Feed(s, x)
			second, more := mach.Feed(s, x)
			third, last := mach.End(s)
			for _, l := range [][]int{first.N.L, first.G.C, first.C, told, third.N.L, third.G.C, third.C, last} {
				clear(l[:cap(l)])
			}
			if want, wantTold := wantFeed(given, x); !sample.SameMachine(second, want) || !slices.Equal(more, wantTold) {
				t.Fatalf("who changed an answer of Feed(%+v, %#x) made of another one %+v, %#x; want %+v, %#x", given, x, second, more, want, wantTold)
			}
			checkState(t, s, x)
			for k, l := range [][]int{given.N.L, given.G.C, given.C} {
				if !slices.Equal(spares[k], slices.Concat(l, sample.Row(40))) {
					t.Fatalf("Feed(%+v, %#x), or who changed its answer, made of what was handed in %#x", given, x, spares[k])
				}
			}
		}
	}
}

// Two that go on from one State do not go on in one memory, whatever room stands behind its items.
func TestTwoGoOn(t *testing.T) {
	for _, kind := range sample.Machines() {
		for n := range 34 {
			s := mach.New(kind)
			for _, x := range sample.Row(n) {
				s, _ = mach.Feed(s, x)
			}
			was := sample.CopyMachine(s)
			first, _ := mach.Feed(s, 0x302)
			second, _ := mach.Feed(s, 0x303)
			third, _ := mach.Feed(second, 0x304)
			for _, l := range [][]int{second.N.L, second.G.C, second.C, third.N.L, third.G.C, third.C} {
				clear(l[:cap(l)])
			}
			if want, _ := wantFeed(was, 0x302); !sample.SameMachine(first, want) || !sample.SameMachine(s, was) {
				t.Errorf("behind %d items machine %d, from %+v, is at %+v; want %+v, from %+v", n, kind, s, first, want, was)
			}
		}
	}
}

// What was handed in as a list of items is not changed either.
func TestListsStay(t *testing.T) {
	whole := slices.Concat(some, odd, sample.Row(40), []int{mach.Cut})
	for _, kind := range slices.Concat(sample.Machines(), sample.NoMachines()) {
		spare := slices.Clone(whole)
		for k := range spare {
			told := mach.All(kind, spare[:k])
			clear(told[:cap(told)])
		}
		if !slices.Equal(spare, whole) {
			t.Errorf("All of machine %d, or who changed its answer, made of what was handed in %#x", kind, spare)
		}
	}
}

// The calls of several that go at once are as those of one, and the wrong ones leave nothing behind.
func TestCallsAtOnce(t *testing.T) {
	given := sample.Begun()
	var all sync.WaitGroup
	for range 8 {
		all.Go(func() {
			for _, x := range slices.Concat(odd, odd) {
				for _, kind := range sample.NoMachines() {
					mach.All(kind, odd)
					mach.Feed(mach.State{Kind: kind, C: sample.Row(33)}, x)
				}
				for _, s := range given {
					next, told := mach.Feed(s, x)
					if want, wantTold := wantFeed(s, x); !sample.SameMachine(next, want) || !slices.Equal(told, wantTold) {
						t.Errorf("Feed(%+v, %#x) = %+v, %#x; want %+v, %#x", s, x, next, told, want, wantTold)
						return
					}
				}
			}
		})
	}
	all.Wait()
	if len(given) != api.Stages {
		t.Errorf("%d machines were tried", len(given))
	}
}
