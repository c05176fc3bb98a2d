package stage_test

import (
	"iter"
	"math"
	"slices"
	"sync"
	"testing"

	"pentrough/chans"
	"pentrough/dec"
	"pentrough/mach"
	"pentrough/norm"
	"pentrough/sample"
	"pentrough/seg"
	"pentrough/stage"
)

// A place is a stage between its channels.
type place struct {
	s       stage.Stage
	in, out chans.Chan
}

// What the layers below tell is asked of them; what is made of it is told anew here, as near to the document's words as may be.

func wantNew(kind int) stage.Stage {
	if slices.Contains(sample.Machines(), kind) {
		return stage.Stage{M: mach.State{Kind: kind}}
	}
	return stage.Stage{}
}

func wantSane(s stage.Stage) bool {
	if s.Ended && !sample.SameMachine(s.M, mach.State{Kind: s.M.Kind}) {
		return false
	}
	if s.Shut && (!s.Ended || len(s.Pend) > 0) {
		return false
	}
	return mach.Sane(s.M) && len(s.Pend) <= 256
}

func wantKnown(s stage.Stage) stage.Stage {
	if wantSane(s) {
		return s
	}
	return wantNew(s.M.Kind)
}

func wantChan(c chans.Chan) chans.Chan {
	if chans.Sane(c) {
		return c
	}
	return chans.Chan{}
}

func wantStep(p place) (place, bool) {
	p = copied(place{wantKnown(p.s), wantChan(p.in), wantChan(p.out)})
	n := min(len(p.s.Pend), 8)
	switch {
	case p.s.Shut:
		return p, false
	case n > 0 && (len(p.out.L) == 2 || p.out.Closed):
		return p, false
	case n > 0:
		p.out.L = append(p.out.L, slices.Clone(p.s.Pend[:n]))
		p.s.Pend = slices.Clone(p.s.Pend[n:])
	case p.s.Ended:
		p.out.Closed, p.s.Shut = true, true
	case len(p.in.L) > 0:
		for _, x := range p.in.L[0] {
			var told []int
			p.s.M, told = mach.Feed(p.s.M, x)
			p.s.Pend = slices.Concat(p.s.Pend, told)
		}
		p.in.L = p.in.L[1:]
	case p.in.Closed:
		p.s.M, p.s.Pend = mach.End(p.s.M)
		p.s.Ended = true
	default:
		return p, false
	}
	return p, true
}

func wantCost(s stage.Stage) int {
	s = wantKnown(s)
	return mach.Cost(s.M) + len(s.Pend)
}

// waits: does a stage that may be wait for a block, the end, or room, or for nothing any more?
func waits(p place) bool {
	if len(p.s.Pend) > 0 {
		return len(p.out.L) == 2 || p.out.Closed
	}
	return p.s.Shut || !p.s.Ended && len(p.in.L) == 0 && !p.in.Closed
}

func sameStage(s, other stage.Stage) bool {
	return sample.SameMachine(s.M, other.M) && slices.Equal(s.Pend, other.Pend) && s.Ended == other.Ended && s.Shut == other.Shut
}

func same(p, other place) bool {
	return sameStage(p.s, other.s) && sample.SameChan(p.in, other.in) && sample.SameChan(p.out, other.out)
}

// copied tells a place in memory of its own.
func copied(p place) place {
	p.s.M, p.s.Pend = sample.CopyMachine(p.s.M), slices.Clone(p.s.Pend)
	p.in, p.out = sample.CopyChan(p.in), sample.CopyChan(p.out)
	return p
}

// step is stage.Step of a place.
func step(p place) (place, bool) {
	var done bool
	p.s, p.in, p.out, done = stage.Step(p.s, p.in, p.out)
	return p, done
}

// checkStage holds the calls that are handed a stage alone.
func checkStage(t *testing.T, s stage.Stage) {
	t.Helper()
	if sane, want := stage.Sane(s), wantSane(s); sane != want {
		t.Fatalf("Sane(%+v) = %v; want %v", s, sane, want)
	}
	if cost, want := stage.Cost(s), wantCost(s); cost != want {
		t.Fatalf("Cost(%+v) = %d; want %d", s, cost, want)
	}
}

// check holds all calls at one place, and the bounds of what they leave.
func check(t *testing.T, p place) {
	t.Helper()
	checkStage(t, p.s)
	next, done := step(p)
	if want, wantDone := wantStep(p); !same(next, want) || done != wantDone {
		t.Fatalf("Step(%+v) = %+v, %v; want %+v, %v", p, next, done, want, wantDone)
	}
	if can := stage.Can(p.s, p.in, p.out); can != done {
		t.Fatalf("Can(%+v) = %v; it did: %v", p, can, done)
	}
	if !stage.Sane(next.s) || stage.Cost(next.s) > 288 || !chans.Sane(next.in) || !chans.Sane(next.out) {
		t.Fatalf("Step(%+v) leaves %+v, which keeps %d; it is Sane: %v", p, next, stage.Cost(next.s), stage.Sane(next.s))
	}
	if !done && !waits(next) {
		t.Fatalf("Step(%+v) does nothing, and waits for nothing", p)
	}
}

// pends tells what waits to be put, of lengths at the bounds and beyond.
func pends() [][]int {
	l := [][]int{nil, {}}
	for _, n := range []int{1, 7, 8, 9, 16, 17, 255, 256, 257, 300} {
		l = append(l, sample.Block(n, 500))
	}
	return l
}

// machines tells machines of each kind, new ones and those at which something came, and some that may not be.
func machines() []mach.State {
	l := sample.Begun()
	for _, kind := range sample.Machines() {
		l = append(l, mach.State{Kind: kind})
	}
	return append(l,
		mach.State{Kind: 4, C: sample.Row(32)}, mach.State{Kind: 3, G: seg.State{C: []int{}}}, mach.State{Kind: 4, C: sample.Row(33)}, mach.State{Kind: 4, C: []int{-1}},
		mach.State{Kind: 1, C: []int{'a'}}, mach.State{Kind: 9}, mach.State{Kind: -1, D: dec.State{B: "\xe2"}}, mach.State{Kind: 1<<32 + 1},
	)
}

// channels tells channels of each number of blocks, open and closed, and some that may not be; their items are bytes and values of many a kind, and Cut.
func channels() []chans.Chan {
	one, eight := []int{0xAC}, []int{'E', 0x301, mach.Cut, 0xFB04, 0xAD, 0x1F1E9, mach.Cut, 'f'}
	var l []chans.Chan
	for _, of := range [][][]int{nil, {}, {one}, {eight}, {one, eight}, {eight, eight}, {nil}, {one, nil}, {sample.Row(9)}, {one, one, one}} {
		l = append(l, chans.Chan{L: of}, chans.Chan{L: of, Closed: true})
	}
	return l
}

// P17.1

func TestNew(t *testing.T) {
	for _, kind := range slices.Concat(sample.Machines(), sample.NoMachines()) {
		s := stage.New(kind)
		if !sameStage(s, wantNew(kind)) || !stage.Sane(s) || stage.Cost(s) != 0 {
			t.Errorf("New(%d) = %+v", kind, s)
		}
	}
}

func TestSaneByHand(t *testing.T) {
	begun, c := mach.State{Kind: 4, C: []int{'a'}}, sample.Row(256)
	for k, x := range []struct {
		s    stage.Stage
		sane bool
	}{
		{stage.Stage{}, true}, {stage.Stage{M: mach.State{Kind: 4}}, true}, {stage.Stage{M: begun}, true}, {stage.Stage{M: mach.State{Kind: 4, C: sample.Row(32)}}, true},
		{stage.Stage{M: mach.State{Kind: 5}}, false}, {stage.Stage{M: mach.State{Kind: -1}}, false}, {stage.Stage{M: mach.State{Kind: 1 << 32}}, false},
		{stage.Stage{M: mach.State{Kind: 4, C: sample.Row(33)}}, false}, {stage.Stage{M: mach.State{Kind: 3, C: []int{'a'}}}, false}, {stage.Stage{M: mach.State{D: dec.State{B: "a"}}}, false},
		// Of what waits to be put no more is asked than how many there are.
		{stage.Stage{Pend: []int{}}, true}, {stage.Stage{Pend: []int{-1, math.MinInt, math.MaxInt}}, true}, {stage.Stage{Pend: c[:255]}, true}, {stage.Stage{Pend: c}, true},
		{stage.Stage{M: begun, Pend: c}, true}, {stage.Stage{Pend: sample.Row(257)}, false}, {stage.Stage{Pend: sample.Row(1 << 16)}, false}, {stage.Stage{Pend: sample.Row(512)}, false},
		// Behind the end a machine is new, but there may be something to put.
		{stage.Stage{Ended: true}, true}, {stage.Stage{M: mach.State{Kind: 2}, Ended: true}, true}, {stage.Stage{Pend: c, Ended: true}, true}, {stage.Stage{Pend: sample.Row(257), Ended: true}, false},
		{stage.Stage{M: begun, Ended: true}, false}, {stage.Stage{M: mach.State{D: dec.State{B: "\xe2"}}, Ended: true}, false}, {stage.Stage{M: mach.State{Kind: 1, N: norm.State{L: []int{'a'}}}, Ended: true}, false},
		{stage.Stage{M: mach.State{Kind: 3, G: seg.State{C: []int{'a'}, S: sample.ClusState("o")}}, Ended: true}, false}, {stage.Stage{M: mach.State{Kind: 3, G: seg.State{S: sample.ClusState("o")}}, Ended: true}, false},
		{stage.Stage{M: mach.State{Kind: 7}, Ended: true}, false}, {stage.Stage{M: mach.State{Kind: 4, N: norm.State{L: []int{}}, C: []int{}}, Ended: true}, true},
		// Who is shut is at its end, and all is put.
		{stage.Stage{Ended: true, Shut: true}, true}, {stage.Stage{M: mach.State{Kind: 3}, Pend: []int{}, Ended: true, Shut: true}, true},
		{stage.Stage{Shut: true}, false}, {stage.Stage{Pend: []int{1}, Shut: true}, false}, {stage.Stage{Pend: []int{1}, Ended: true, Shut: true}, false}, {stage.Stage{M: begun, Ended: true, Shut: true}, false}, {stage.Stage{M: begun, Shut: true}, false},
	} {
		if stage.Sane(x.s) != x.sane {
			t.Errorf("%d: Sane(%+v) = %v", k, x.s, !x.sane)
		}
		checkStage(t, x.s)
	}
}

// Each choice of what a stage may hold, Sane or not, between channels of each kind.
func TestEveryPlace(t *testing.T) {
	for _, m := range machines() {
		for _, pend := range pends() {
			for bits := range 4 {
				s := stage.Stage{M: m, Pend: pend, Ended: bits&1 > 0, Shut: bits&2 > 0}
				for _, in := range channels() {
					for _, out := range channels() {
						check(t, place{s, in, out})
					}
				}
			}
		}
	}
}

// What is not Sane counts as new of its machine's kind, and a channel as one without blocks, be it that nothing is done.
func TestInsane(t *testing.T) {
	nine, three := chans.Chan{L: [][]int{sample.Row(9)}, Closed: true}, chans.Chan{L: sample.Blocks(1, 1, 1)}
	a, closed := chans.Chan{L: [][]int{{'a'}}}, chans.Chan{Closed: true}
	for k, x := range []struct {
		p, next place
		done    bool
	}{
		{place{s: stage.Stage{M: mach.State{Kind: 4}, Shut: true}}, place{s: stage.New(4)}, false},
		{place{stage.Stage{M: mach.State{Kind: 0}, Shut: true}, a, chans.Chan{}}, place{s: stage.Stage{Pend: []int{'a'}}}, true},
		{place{stage.Stage{M: mach.State{Kind: 9}, Pend: []int{1}}, a, chans.Chan{}}, place{s: stage.Stage{Pend: []int{'a'}}}, true},
		{place{stage.Stage{M: mach.State{Kind: 4, C: []int{'b'}}, Ended: true}, a, chans.Chan{}}, place{s: stage.Stage{M: mach.State{Kind: 4, C: []int{'a'}}}}, true},
		{place{stage.Stage{M: mach.State{Kind: 3}, Pend: sample.Row(257)}, closed, chans.Chan{}}, place{stage.Stage{M: mach.State{Kind: 3}, Ended: true}, closed, chans.Chan{}}, true},
		{place{stage.Stage{M: mach.State{Kind: 3}, Pend: sample.Row(3), Ended: true, Shut: true}, chans.Chan{}, closed}, place{stage.New(3), chans.Chan{}, closed}, false},
		{place{stage.New(1), nine, three}, place{s: stage.New(1)}, false},
		{place{stage.New(1), three, nine}, place{s: stage.New(1)}, false},
		{place{stage.Stage{Pend: []int{7}}, nine, three}, place{out: chans.Chan{L: [][]int{{7}}}}, true},
		{place{stage.Stage{Pend: []int{7}}, three, nine}, place{out: chans.Chan{L: [][]int{{7}}}}, true},
		{place{stage.Stage{Ended: true}, nine, nine}, place{stage.Stage{Ended: true, Shut: true}, chans.Chan{}, closed}, true},
		{place{stage.Stage{Ended: true, Shut: true}, nine, nine}, place{s: stage.Stage{Ended: true, Shut: true}}, false},
		{place{stage.Stage{}, a, nine}, place{s: stage.Stage{Pend: []int{'a'}}}, true},
		{place{stage.Stage{}, closed, three}, place{stage.Stage{Ended: true}, closed, chans.Chan{}}, true},
	} {
		if next, done := step(x.p); !same(next, x.next) || done != x.done {
			t.Errorf("%d: Step(%+v) = %+v, %v; want %+v, %v", k, x.p, next, done, x.next, x.done)
		}
		check(t, x.p)
	}
}

// P17.2

// The document's example, step by step.
func TestExample(t *testing.T) {
	p := place{s: stage.New(mach.Norm), in: chans.Chan{L: [][]int{{0x65, 0x301}}}}
	steps := func(want ...place) {
		for _, w := range want {
			var done bool
			if p, done = step(p); !same(p, w) || !done {
				t.Errorf("%+v, %v; want %+v", p, done, w)
			}
		}
		if stage.Can(p.s, p.in, p.out) {
			t.Errorf("%+v goes on", p)
		}
	}
	left := mach.State{Kind: mach.Norm, N: norm.State{L: []int{0x65, 0x301}}}
	steps(place{s: stage.Stage{M: left}})
	p.in = chans.Close(p.in)
	ended := stage.Stage{M: mach.New(mach.Norm), Ended: true}
	toPut, shut := ended, ended
	toPut.Pend, shut.Shut = []int{0xE9}, true
	steps(
		place{s: toPut, in: p.in},
		place{ended, p.in, chans.Chan{L: [][]int{{0xE9}}}},
		place{shut, p.in, chans.Chan{L: [][]int{{0xE9}}, Closed: true}},
	)
}

func TestStepByHand(t *testing.T) {
	a, ab, closed := chans.Chan{L: [][]int{{'a'}}}, chans.Chan{L: [][]int{{'a'}, {'b', 'c'}}}, chans.Chan{Closed: true}
	aClosed, full := chans.Chan{L: [][]int{{'a'}}, Closed: true}, chans.Chan{L: [][]int{{1}, {2}}}
	bc, abClosed := chans.Chan{L: [][]int{{'b', 'c'}}}, chans.Chan{L: [][]int{{'a'}, {'b', 'c'}}, Closed: true}
	q := mach.State{Kind: 1, N: norm.State{L: []int{'q'}}}
	for k, x := range []struct {
		p, next place
		done    bool
	}{
		// Who is shut does nothing, whatever there is.
		{place{stage.Stage{Ended: true, Shut: true}, ab, a}, place{stage.Stage{Ended: true, Shut: true}, ab, a}, false},
		{place{stage.Stage{Ended: true, Shut: true}, aClosed, chans.Chan{}}, place{stage.Stage{Ended: true, Shut: true}, aClosed, chans.Chan{}}, false},
		// What waits to be put goes ahead of all else, one block a step, and nothing else is done where there is no room.
		{place{stage.Stage{Pend: []int{7}}, ab, chans.Chan{}}, place{stage.Stage{}, ab, chans.Chan{L: [][]int{{7}}}}, true},
		{place{stage.Stage{M: q, Pend: []int{7}}, aClosed, a}, place{stage.Stage{M: q}, aClosed, chans.Chan{L: [][]int{{'a'}, {7}}}}, true},
		{place{stage.Stage{Pend: []int{7}, Ended: true}, closed, a}, place{stage.Stage{Ended: true}, closed, chans.Chan{L: [][]int{{'a'}, {7}}}}, true},
		{place{stage.Stage{M: q, Pend: []int{7}}, ab, full}, place{stage.Stage{M: q, Pend: []int{7}}, ab, full}, false},
		{place{stage.Stage{M: q, Pend: []int{7}}, ab, closed}, place{stage.Stage{M: q, Pend: []int{7}}, ab, closed}, false},
		{place{stage.Stage{Pend: []int{7}, Ended: true}, closed, full}, place{stage.Stage{Pend: []int{7}, Ended: true}, closed, full}, false},
		{place{stage.Stage{Pend: []int{7}, Ended: true}, closed, aClosed}, place{stage.Stage{Pend: []int{7}, Ended: true}, closed, aClosed}, false},
		{place{s: stage.Stage{Pend: sample.Block(8, 0)}}, place{out: chans.Chan{L: sample.Blocks(8)}}, true},
		{place{s: stage.Stage{Pend: sample.Block(9, 0)}}, place{s: stage.Stage{Pend: []int{8}}, out: chans.Chan{L: sample.Blocks(8)}}, true},
		{place{s: stage.Stage{Pend: sample.Block(256, 0)}}, place{s: stage.Stage{Pend: sample.Block(248, 8)}, out: chans.Chan{L: sample.Blocks(8)}}, true},
		// Once all is put the end goes on, whether there is room or not, and be it that something still comes.
		{place{stage.Stage{Ended: true}, closed, full}, place{stage.Stage{Ended: true, Shut: true}, closed, chans.Chan{L: full.L, Closed: true}}, true},
		{place{stage.Stage{Ended: true}, ab, closed}, place{stage.Stage{Ended: true, Shut: true}, ab, closed}, true},
		{place{stage.Stage{M: mach.New(4), Ended: true}, chans.Chan{}, chans.Chan{}}, place{stage.Stage{M: mach.New(4), Ended: true, Shut: true}, chans.Chan{}, closed}, true},
		// Of several blocks one is taken, be it that there is no room, or that the channel is closed.
		{place{stage.Stage{M: q}, ab, full}, place{stage.Stage{M: mach.State{Kind: 1, N: norm.State{L: []int{'a'}}}, Pend: []int{'q'}}, bc, full}, true},
		{place{stage.Stage{}, bc, closed}, place{stage.Stage{Pend: []int{'b', 'c'}}, chans.Chan{}, closed}, true},
		{place{stage.Stage{}, aClosed, chans.Chan{}}, place{stage.Stage{Pend: []int{'a'}}, closed, chans.Chan{}}, true},
		{place{stage.New(4), abClosed, a}, place{stage.Stage{M: mach.State{Kind: 4, C: []int{'a'}}}, chans.Chan{L: bc.L, Closed: true}, a}, true},
		// The end comes when the last block was taken.
		{place{stage.Stage{M: q}, closed, full}, place{stage.Stage{M: mach.New(1), Pend: []int{'q'}, Ended: true}, closed, full}, true},
		{place{stage.New(2), closed, closed}, place{stage.Stage{M: mach.New(2), Ended: true}, closed, closed}, true},
		{place{stage.Stage{M: mach.State{Kind: 4, C: []int{'a'}}}, closed, a}, place{stage.Stage{M: mach.New(4), Ended: true}, closed, a}, true},
		// Where nothing comes nothing is done.
		{place{stage.Stage{M: q}, chans.Chan{}, chans.Chan{}}, place{stage.Stage{M: q}, chans.Chan{}, chans.Chan{}}, false},
		{place{stage.New(3), chans.Chan{}, aClosed}, place{stage.New(3), chans.Chan{}, aClosed}, false},
	} {
		if next, done := step(x.p); !same(next, x.next) || done != x.done {
			t.Errorf("%d: Step(%+v) = %+v, %v; want %+v, %v", k, x.p, next, done, x.next, x.done)
		}
		if can := stage.Can(x.p.s, x.p.in, x.p.out); can != x.done {
			t.Errorf("%d: Can(%+v) = %v", k, x.p, can)
		}
		check(t, x.p)
	}
}

// What each machine tells of a whole block.
func TestBlocksByHand(t *testing.T) {
	for kind, x := range []struct {
		block []int
		left  mach.State
		told  []int
	}{
		{[]int{0x45, 0xCC, 0x81, 0x1C3, -0x57, 0xE2, 0xFF, 0xC3}, mach.State{D: dec.State{B: "\xc3"}}, []int{0x45, 0x301, 0xE9, 0xFFFD, 0xFFFD}},
		{[]int{'A', 0x302, 0x323, 0xFB04, 0xAD, 'E', 0x301, 'q'}, mach.State{Kind: 1, N: norm.State{L: []int{'q'}}}, []int{0x1EAC, 'f', 'f', 'l', 0xAD, 0xC9}},
		{[]int{'A', 0x302, 0x323, 0xFB04, 0xAD, 'E', 0x301, 0xDF}, mach.State{Kind: 2, N: norm.State{L: []int{'s'}}}, []int{0x1EAD, 'f', 'f', 'l', 0xE9, 's'}},
		{[]int{'a', 0x301, '\r', '\n', 0x1F1E9, 0x1F1EA, 0x1F1E9, 'b'}, mach.State{Kind: 3, G: seg.State{C: []int{'b'}, S: sample.ClusState("o")}}, []int{'a', 0x301, -1, '\r', '\n', -1, 0x1F1E9, 0x1F1EA, -1, 0x1F1E9, -1}},
		{[]int{'e', 0x301, -1, -1, 'f', -1, 0x1F600, 'g'}, mach.State{Kind: 4, C: []int{0x1F600, 'g'}}, []int{3, 0x65, 0xCC, 0x81, 1, 0x66}},
	} {
		in, full := chans.Chan{L: [][]int{x.block, {'z'}}}, chans.Chan{L: sample.Blocks(8, 8)}
		p := place{stage.New(kind), in, full}
		want := place{stage.Stage{M: x.left, Pend: x.told}, chans.Chan{L: [][]int{{'z'}}}, full}
		if next, done := step(p); !same(next, want) || !done {
			t.Errorf("machine %d: %+v, %v; want %+v", kind, next, done, want)
		}
		check(t, p)
	}
}

// Of each length that may wait, a block goes out a step, till all is put.
func TestEveryLength(t *testing.T) {
	for n := range 260 {
		for _, out := range channels() {
			check(t, place{s: stage.Stage{Pend: sample.Block(n, 0)}, out: out})
			check(t, place{s: stage.Stage{M: mach.New(4), Pend: sample.Block(n, 0), Ended: true}, out: out})
		}
		if n > 256 {
			continue
		}
		p := place{s: stage.Stage{M: mach.New(2), Pend: sample.Block(n, 0), Ended: true}}
		got, steps := []int(nil), 0
		for stage.Can(p.s, p.in, p.out) && steps < 300 {
			p, _ = step(p)
			steps++
			left, b, _ := chans.Take(p.out)
			p.out, got = left, append(got, b...)
		}
		if !slices.Equal(got, sample.Block(n, 0)) || steps != (n+7)/8+1 || !p.s.Shut || !p.out.Closed {
			t.Fatalf("%d items are put in %d steps, as %d: %+v", n, steps, got, p)
		}
	}
}

// An item is any number: none stands for the end, nor for nothing, nor is any kept from being put.
func TestEveryNumber(t *testing.T) {
	all := sample.Begun()
	for x := range sample.Numbers() {
		if x > 0x3100 && x%0x3F > 0 {
			continue // what is alike is tried here and there
		}
		in := chans.Chan{L: [][]int{{x, 'a'}}, Closed: true}
		for _, m := range all {
			check(t, place{s: stage.Stage{M: m}, in: in})
		}
		check(t, place{s: stage.Stage{M: all[4], Pend: []int{x}}, in: in})
	}
}

// P17.3

func TestCostByHand(t *testing.T) {
	for _, x := range []struct {
		s    stage.Stage
		cost int
	}{
		{stage.Stage{}, 0}, {stage.Stage{Pend: []int{5, 6, 7}}, 3}, {stage.Stage{Pend: sample.Row(256)}, 256}, {stage.Stage{M: mach.State{Kind: 4, C: sample.Row(32)}, Pend: sample.Row(256)}, 288},
		{stage.Stage{M: mach.State{D: dec.State{B: "\xf0\x9f\x98"}}}, 3}, {stage.Stage{M: mach.State{Kind: 1, N: norm.State{L: []int{'e', 0x301}}}, Pend: []int{1}}, 3},
		{stage.Stage{Pend: []int{5}, Ended: true}, 1}, {stage.Stage{Ended: true, Shut: true}, 0},
		// What is not Sane keeps nothing.
		{stage.Stage{Pend: sample.Row(257)}, 0}, {stage.Stage{Pend: []int{5}, Shut: true}, 0}, {stage.Stage{M: mach.State{Kind: 4, C: []int{'a'}}, Pend: []int{5}, Ended: true}, 0}, {stage.Stage{M: mach.State{Kind: 5}, Pend: []int{5}}, 0}, {stage.Stage{M: mach.State{Kind: 4, C: sample.Row(33)}, Pend: []int{5}}, 0},
	} {
		if cost := stage.Cost(x.s); cost != x.cost {
			t.Errorf("Cost(%+v) = %d; want %d", x.s, cost, x.cost)
		}
	}
}

// Of what machines keep as much as may be, and of which a block tells most, no more waits than may.
func TestMostOfABlock(t *testing.T) {
	most, row, joined := 0, append([]int{'q'}, sample.Row(30)...), sample.ClusState("e")
	all := []mach.State{
		{D: dec.State{B: "\xf0\x9f\x98"}}, {Kind: 1, N: norm.State{L: row}}, {Kind: 2, N: norm.State{L: row}}, {Kind: 3, G: seg.State{C: sample.Row(32), S: joined}},
		{Kind: 4, C: slices.Repeat([]int{0x1F3FD}, 32)}, {Kind: 4, C: slices.Repeat([]int{-2}, 32)},
	}
	for _, m := range all {
		for few := range sample.Lists([]int{'b', 0xFF, 0x390, 0xDF, 0xFB04, 0x2167, 0x301, mach.Cut, 0x1F600}, 3) {
			if len(few) == 0 {
				continue
			}
			for ahead := range 3 {
				block := append(slices.Repeat([]int{mach.Cut}, ahead), slices.Repeat(few, 8)...)[:8]
				p := place{s: stage.Stage{M: m}, in: chans.Chan{L: [][]int{block}}}
				check(t, p)
				next, _ := step(p)
				most = max(most, len(next.s.Pend))
			}
		}
	}
	if most < 130 || most > 256 {
		t.Errorf("of a block at most %d items are told", most)
	}
}

// P17.4: what is done at a place, in each order, against what the machine tells of all that came.

// A run is a place, what was put in its channel, and what was taken from the other one.
type run struct {
	p        place
	put, got []int
}

func (r run) push(b []int) run {
	if in, done := chans.Put(r.p.in, b); done {
		r.p.in, r.put = in, slices.Concat(r.put, b)
	}
	return r
}

func (r run) close() run {
	r.p.in = chans.Close(r.p.in)
	return r
}

func (r run) pull() run {
	out, b, _ := chans.Take(r.p.out)
	r.p.out, r.got = out, slices.Concat(r.got, b)
	return r
}

func (r run) step() run {
	r.p, _ = step(r.p)
	return r
}

// check holds that what was taken, what may be, and what waits, is what the machine tells of what it was handed.
func (r run) check(t *testing.T) {
	t.Helper()
	m := mach.New(r.p.s.M.Kind)
	var all, told []int
	for _, x := range r.put[:len(r.put)-chans.Count(r.p.in)] {
		m, told = mach.Feed(m, x)
		all = append(all, told...)
	}
	if r.p.s.Ended {
		m, told = mach.End(m)
		all = append(all, told...)
	}
	if there := slices.Concat(r.got, slices.Concat(r.p.out.L...), r.p.s.Pend); !slices.Equal(there, all) || !sample.SameMachine(r.p.s.M, m) {
		t.Fatalf("of %#x, at %+v, came %#x; want %#x, at %+v", r.put, r.p, there, all, m)
	}
	if r.p.out.Closed != r.p.s.Shut || r.p.s.Ended && !chans.Spent(r.p.in) {
		t.Fatalf("of %#x it came to %+v", r.put, r.p)
	}
	check(t, r.p)
}

// ended goes on till all is taken, or far longer than that may last.
func (r run) ended() run {
	r = r.close()
	for n := 0; !chans.Spent(r.p.out) && n < 10*len(r.put)+100; n++ {
		r = r.step().pull()
	}
	return r
}

// few tells two blocks for a machine: a little, and one of which more than a block is told.
func few(kind int) [][]int {
	return [][][]int{
		{{0xC3}, {0xA9, 'A', 0xE2, 0x82, 0xFF, 0xFF, 0xFF, 0xE2}},
		{{0x301}, {'E', 0x301, 0xFB04, 0xAD, 0x2167, 'E', 'A', 0x323}},
		{{0x301}, {'E', 0x301, 0xFB04, 0xAD, 0x2167, 'E', 'A', 0x323}},
		{{0x301}, {'a', 'b', 'c', '\r', '\n', 'd', 0x1F1E9, 0x1F1EA}},
		{{'a', -1}, {0x1F600, -1, 'e', 0x301, -1, 0x1F600, -1, 'b'}},
	}[kind]
}

// everyOrder holds what comes of each order of no more than n acts; each act goes on from what the last one left, and others do so too.
func everyOrder(t *testing.T, r run, n int) {
	r.check(t)
	if n == 0 {
		if last := r.ended(); !last.p.s.Shut || !slices.Equal(last.got, mach.All(r.p.s.M.Kind, r.put)) {
			t.Fatalf("of %#x, from %+v on, came %#x", r.put, r.p, last.got)
		}
		return
	}
	blocks := few(r.p.s.M.Kind)
	for _, next := range []run{r.push(blocks[0]), r.push(blocks[1]), r.step(), r.pull(), r.close()} {
		everyOrder(t, next, n-1)
	}
}

func TestEveryOrder(t *testing.T) {
	for _, kind := range sample.Machines() {
		everyOrder(t, run{p: place{s: stage.New(kind)}}, 6)
	}
}

// A pace tells how many steps are made, and how many blocks are taken, behind each act with the other channel.
type pace struct{ steps, pulls int }

// through tells what comes of a list that is put in blocks of some length at some pace.
func through(t *testing.T, kind int, l []int, block int, at pace) run {
	r := run{p: place{s: stage.New(kind)}}
	for len(r.put) < len(l) {
		r = r.push(l[len(r.put):min(len(r.put)+block, len(l))])
		for range at.steps {
			r = r.step()
		}
		for range at.pulls {
			r = r.pull()
		}
		check(t, r.p)
	}
	return r.ended()
}

// paces: the stage is faster than both others, as fast, slower, and held up.
var paces = []pace{{50, 3}, {2, 1}, {1, 1}, {1, 3}, {7, 1}}

func TestLists(t *testing.T) {
	hard := func(yield func([]int) bool) {
		n := 0
		for l := range sample.Hard() {
			if n++; n%97 == 0 && !yield(l) {
				return
			}
		}
	}
	some := []int{'E', 0x301, 0xDF, 0xFB01, 0x1F1E9, mach.Cut, 0xC3, 0xA9}
	for _, lists := range []iter.Seq[[]int]{hard, sample.Lists(some, 3)} {
		for l := range lists {
			for _, kind := range sample.Machines() {
				at := paces[(len(l)+kind)%len(paces)]
				if got, want := through(t, kind, l, 1+len(l)%8, at).got, mach.All(kind, l); !slices.Equal(got, want) {
					t.Fatalf("of %#x, at %+v, a stage of machine %d put %#x; want %#x", l, at, kind, got, want)
				}
			}
		}
	}
}

func TestEveryPace(t *testing.T) {
	l := slices.Concat([]int{'S', 0xDF, 0xFF21, 0x30A, 0x323}, sample.Row(33), []int{mach.Cut}, sample.Strewn(70), slices.Repeat([]int{0x1F3FD, mach.Cut}, 20), slices.Repeat([]int{0xE2, 0x82, 0xAC}, 20), sample.Bad())
	for _, kind := range sample.Machines() {
		for _, at := range paces {
			for block := 1; block <= 8; block++ {
				r := through(t, kind, l, block, at)
				if want := mach.All(kind, l); !slices.Equal(r.got, want) {
					t.Fatalf("in blocks of %d, at %+v, a stage of machine %d put %#x; want %#x", block, at, kind, r.got, want)
				}
				r.check(t)
			}
		}
	}
}

// No list is too great: no more is kept of many items than of few, and what may not be is told as soon.
func TestGreatLists(t *testing.T) {
	for _, kind := range sample.Machines() {
		for _, few := range [][]int{{'E'}, {0xE2, 0x82, 0xAC}, {0x301}, {'a', mach.Cut}, {0x1F1E9}} {
			l := slices.Repeat(few, 1<<9)
			if got, want := through(t, kind, l, 8, paces[1]).got, mach.All(kind, l); !slices.Equal(got, want) {
				t.Fatalf("of many of %#x a stage of machine %d put %#x; want %#x", few, kind, got, want)
			}
		}
		check(t, place{s: stage.Stage{M: mach.New(kind), Pend: make([]int, 1<<20)}, in: chans.Chan{L: make([][]int, 1<<20)}, out: chans.Chan{L: [][]int{make([]int, 1<<20)}}})
	}
}

// R3, R4: what is answered has memory of its own.

// given tells some places: of each thing that may be done, and of what is not.
func given() []place {
	begun, two := sample.Begun(), chans.Chan{L: [][]int{{'a', 0x301, mach.Cut}, {'b'}}}
	one, closed := chans.Chan{L: two.L[:1]}, chans.Chan{Closed: true}
	all := []place{
		{stage.Stage{Ended: true, Shut: true}, two, one}, {stage.Stage{Pend: sample.Block(3, 0), Ended: true}, two, one}, {stage.Stage{Ended: true}, two, two}, {stage.Stage{Ended: true}, closed, one},
		{stage.Stage{M: mach.State{Kind: 4, C: sample.Row(33)}, Pend: sample.Row(3)}, two, one}, {stage.Stage{Pend: sample.Row(257)}, one, two}, {stage.Stage{M: begun[4], Ended: true}, chans.Chan{L: sample.Blocks(9)}, chans.Chan{L: sample.Blocks(1, 1, 1)}},
	}
	for _, m := range begun {
		all = append(all,
			place{stage.Stage{M: m}, two, two}, place{stage.Stage{M: m, Pend: sample.Block(20, 0)}, two, one}, place{stage.Stage{M: m, Pend: sample.Block(20, 0)}, two, two},
			place{stage.Stage{M: m, Pend: []int{5}}, chans.Chan{}, chans.Chan{}}, place{stage.Stage{M: m}, closed, one}, place{stage.Stage{M: m}, chans.Chan{}, one},
		)
	}
	return all
}

// lists tells where the lists of items of a place stand.
func lists(p *place) []*[]int {
	l := []*[]int{&p.s.M.N.L, &p.s.M.G.C, &p.s.M.C, &p.s.Pend}
	for _, c := range []*chans.Chan{&p.in, &p.out} {
		for k := range c.L {
			l = append(l, &c.L[k])
		}
	}
	return l
}

// behind is what stands behind the lists of spared, ten items or blocks.
func behind() []int { return sample.Row(10) }

// spared tells a place with room behind each of its lists, in which something stands.
func spared(p place) place {
	p = copied(p)
	for _, c := range []*chans.Chan{&p.in, &p.out} {
		c.L = slices.Concat(c.L, slices.Repeat([][]int{behind()}, 10))[:len(c.L)]
	}
	for _, l := range lists(&p) {
		*l = slices.Concat(*l, behind())[:len(*l)]
	}
	return p
}

// checkSpared holds that nobody wrote on a place that spared told of another one, nor behind its lists.
func checkSpared(t *testing.T, p, was place) {
	t.Helper()
	if !same(p, was) {
		t.Fatalf("of %+v was made %+v", was, p)
	}
	for _, l := range lists(&p) {
		if n := len(*l); !slices.Equal((*l)[n:n+10], behind()) {
			t.Fatalf("behind a list of %+v was written %v", was, (*l)[n:n+10])
		}
	}
	for _, l := range [][][]int{p.in.L, p.out.L} {
		for _, b := range l[len(l) : len(l)+10] {
			if !slices.Equal(b, behind()) {
				t.Fatalf("behind the blocks of %+v was written %v", was, b)
			}
		}
	}
}

// scratch writes over all the memory of a place.
func scratch(p place) {
	for _, l := range lists(&p) {
		whole := (*l)[:cap(*l)]
		for k := range whole {
			whole[k] = -7
		}
	}
	clear(p.in.L[:cap(p.in.L)])
	clear(p.out.L[:cap(p.out.L)])
}

func TestAnswersApart(t *testing.T) {
	for _, was := range given() {
		p := spared(was)
		first, _ := step(p)
		second, done := step(p)
		scratch(first)
		if want, wantDone := wantStep(was); !same(second, want) || done != wantDone {
			t.Errorf("who changed an answer of Step(%+v) made of another one %+v, %v; want %+v, %v", was, second, done, want, wantDone)
		}
		stage.Can(p.s, p.in, p.out)
		stage.Sane(p.s)
		stage.Cost(p.s)
		checkSpared(t, p, was)
	}
}

// What was handed in may be changed once the call answered: that changes no answer.
func TestArgumentsApart(t *testing.T) {
	for _, was := range given() {
		p := spared(was)
		next, done := step(p)
		scratch(p)
		if want, wantDone := wantStep(was); !same(next, want) || done != wantDone {
			t.Errorf("who changed what was handed in made of Step(%+v) %+v, %v; want %+v, %v", was, next, done, want, wantDone)
		}
	}
}

// No two lists of one answer share memory, nor has one room in which another one stands.
func TestListsOfOneAnswerApart(t *testing.T) {
	for _, was := range given() {
		for _, backwards := range []bool{false, true} {
			next, _ := step(was)
			all := lists(&next)
			if backwards {
				slices.Reverse(all)
			}
			for k, l := range all {
				whole := (*l)[:cap(*l)]
				for n := range whole {
					whole[n] = k
				}
			}
			for k, l := range all {
				if slices.ContainsFunc(*l, func(x int) bool { return x != k }) {
					t.Errorf("of Step(%+v) two lists share memory: %v", was, *l)
				}
			}
		}
	}
}

// Two that go on from one place do not go on in one memory.
func TestTwoGoOn(t *testing.T) {
	for _, was := range given() {
		p := spared(was)
		for range 3 {
			left := copied(p)
			first, _ := step(place{p.s, chans.Chan{L: [][]int{{'q', 0x302}}}, p.out})
			want := copied(first)
			second, _ := step(p)
			third, _ := step(second)
			scratch(third)
			if !same(first, want) || !same(p, left) {
				t.Errorf("from %+v on one came to %+v; another one made of that %+v", left, want, first)
			}
			p, _ = step(p)
		}
	}
}

// The calls of several that go at once are as those of one, and the wrong ones leave nothing behind.
func TestCallsAtOnce(t *testing.T) {
	shared := given()
	var all sync.WaitGroup
	for range 8 {
		all.Go(func() {
			for range 50 {
				for _, p := range shared {
					next, done := step(p)
					want, wantDone := wantStep(p)
					if !same(next, want) || done != wantDone || stage.Can(p.s, p.in, p.out) != done || stage.Sane(p.s) != wantSane(p.s) || stage.Cost(p.s) != wantCost(p.s) {
						t.Errorf("Step(%+v) = %+v, %v; want %+v, %v", p, next, done, want, wantDone)
						return
					}
				}
			}
		})
	}
	all.Wait()
}
