package sample_test

import (
	"slices"
	"testing"

	"pentrough/chans"
	"pentrough/clus"
	"pentrough/dec"
	"pentrough/mach"
	"pentrough/norm"
	"pentrough/sample"
	"pentrough/seg"
)

func TestMachines(t *testing.T) {
	if l := sample.Machines(); !slices.Equal(l, []int{mach.Decode, mach.Norm, mach.Fold, mach.Segment, mach.Framer}) {
		t.Errorf("the machines are %d", l)
	}
	cut := 0
	for _, kind := range sample.NoMachines() {
		if slices.Contains(sample.Machines(), kind) {
			t.Errorf("%d is a machine", kind)
		}
		if k := int(int16(kind)); slices.Contains(sample.Machines(), k) {
			cut++
		}
	}
	if cut < 5 {
		t.Errorf("%d of the numbers are a machine's once they are cut down", cut)
	}
}

func TestBegun(t *testing.T) {
	all := sample.Begun()
	if len(all) != 5 {
		t.Errorf("%d machines are begun", len(all))
	}
	for kind, s := range all {
		if s.Kind != kind || !mach.Sane(s) || mach.Cost(s) == 0 {
			t.Errorf("machine %d is %+v, which keeps %d; it is Sane: %v", kind, s, mach.Cost(s), mach.Sane(s))
		}
	}
}

func TestSameMachine(t *testing.T) {
	all := append(sample.Begun(),
		mach.State{}, mach.State{Kind: 1}, mach.State{D: dec.State{B: "\xe2"}}, mach.State{Kind: 1, N: norm.State{L: []int{'e'}}}, mach.State{Kind: 3, G: seg.State{C: []int{'e', 0x302}, S: sample.ClusState("oe")}},
		mach.State{Kind: 3, G: seg.State{C: []int{'e', 0x301}, S: clus.State{On: true}}}, mach.State{Kind: 4, C: []int{'e', 0x302}}, mach.State{Kind: 4, C: []int{'e', 0x301, 'f'}},
	)
	for k, s := range all {
		for n, other := range all {
			if same := sample.SameMachine(s, other); same != (k == n) {
				t.Errorf("%+v and %+v are alike: %v", s, other, same)
			}
		}
	}
	if !sample.SameMachine(mach.State{}, mach.State{N: norm.State{L: []int{}}, G: seg.State{C: []int{}}, C: []int{}}) {
		t.Error("a list without elements is not taken for none")
	}
}

func TestCopyMachine(t *testing.T) {
	s := mach.State{Kind: 2, D: dec.State{B: "\xe2"}, N: norm.State{L: []int{1, 2}}, G: seg.State{C: []int{3}, S: sample.ClusState("i")}, C: []int{4}}
	other := sample.CopyMachine(s)
	if !sample.SameMachine(s, other) {
		t.Errorf("of %+v was made %+v", s, other)
	}
	other.N.L[0], other.G.C[0], other.C[0] = 9, 9, 9
	if s.N.L[0] != 1 || s.G.C[0] != 3 || s.C[0] != 4 {
		t.Errorf("who changed what was made changed also %+v", s)
	}
}

func TestItems(t *testing.T) {
	if l := sample.Items([]byte("\x00a\xff")); !slices.Equal(l, []int{0, 'a', 0xFF}) {
		t.Errorf("as items the bytes are %#x", l)
	}
}

func TestBlocks(t *testing.T) {
	if l := sample.Block(3, 10); !slices.Equal(l, []int{10, 11, 12}) {
		t.Errorf("three items from 10 on: %d", l)
	}
	if l := slices.Concat(sample.Block(0, 10), sample.Block(-1, 10)); len(l) > 0 {
		t.Errorf("no items from 10 on: %d", l)
	}
	if l := sample.Blocks(2, 0, 1); !slices.EqualFunc(l, [][]int{{0, 1}, nil, {2000}}, slices.Equal) {
		t.Errorf("blocks of 2, 0, 1: %d", l)
	}
}

func TestSameChan(t *testing.T) {
	all := []chans.Chan{{}, {Closed: true}, {L: [][]int{{1}}}, {L: [][]int{{1}}, Closed: true}, {L: [][]int{{2}}}, {L: [][]int{{1, 2}}}, {L: [][]int{{1}, {2}}}, {L: [][]int{nil}}}
	for k, c := range all {
		for n, other := range all {
			if same := sample.SameChan(c, other); same != (k == n) {
				t.Errorf("%v and %v are alike: %v", c, other, same)
			}
		}
	}
	if !sample.SameChan(chans.Chan{}, chans.Chan{L: [][]int{}}) {
		t.Error("a list without elements is not taken for none")
	}
}

func TestCopyChan(t *testing.T) {
	c := chans.Chan{L: [][]int{{1, 2}, {3}}, Closed: true}
	other := sample.CopyChan(c)
	if !sample.SameChan(c, other) {
		t.Errorf("of %v was made %v", c, other)
	}
	other.L[0][0], other.L[1] = 9, nil
	if want := (chans.Chan{L: [][]int{{1, 2}, {3}}, Closed: true}); !sample.SameChan(c, want) {
		t.Errorf("who changed what was made changed also %v", c)
	}
}
