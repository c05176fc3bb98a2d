package chans_test

import (
	"iter"
	"math"
	"slices"
	"sync"
	"testing"

	"pentrough/chans"
	"pentrough/sample"
)

// What is wanted is told anew here, as near to the document's words as may be: each answer in lists of its own.

func wantSane(c chans.Chan) bool {
	if len(c.L) > 2 {
		return false
	}
	for _, b := range c.L {
		if len(b) < 1 || len(b) > 8 {
			return false
		}
	}
	return true
}

// wantKnown tells what a channel counts as.
func wantKnown(c chans.Chan) chans.Chan {
	if wantSane(c) {
		return sample.CopyChan(c)
	}
	return chans.Chan{}
}

func wantPut(c chans.Chan, b []int) (chans.Chan, bool) {
	c = wantKnown(c)
	if len(b) < 1 || len(b) > 8 || c.Closed || len(c.L) >= 2 {
		return c, false
	}
	return chans.Chan{L: slices.Concat(c.L, [][]int{slices.Clone(b)})}, true
}

func wantTake(c chans.Chan) (chans.Chan, []int, bool) {
	c = wantKnown(c)
	switch len(c.L) {
	case 1:
		return chans.Chan{Closed: c.Closed}, c.L[0], true
	case 2:
		return chans.Chan{L: [][]int{c.L[1]}, Closed: c.Closed}, c.L[0], true
	}
	return c, nil, false
}

func wantClose(c chans.Chan) chans.Chan { return chans.Chan{L: wantKnown(c).L, Closed: true} }

func wantSpent(c chans.Chan) bool {
	c = wantKnown(c)
	return c.Closed && len(c.L) == 0
}

func wantCount(c chans.Chan) int { return len(slices.Concat(wantKnown(c).L...)) }

// lengths: those of what is a block, of what is none, and of what would be one once its length is cut down to fewer bits.
var lengths = []int{0, 1, 2, 5, 7, 8, 9, 16, 17, 255, 256, 257, 264, 1<<16 + 3}

// few: lengths at the bounds.
var few = []int{0, 1, 8, 9}

// all ranges over channels of few blocks of some lengths, and of more blocks of lengths at the bounds, each open and closed.
func all() iter.Seq[chans.Chan] {
	return func(yield func(chans.Chan) bool) {
		for _, of := range []iter.Seq[[]int]{sample.Lists(lengths[:13], 2), sample.Lists(few, 4), sample.Lists(lengths, 1)} {
			for l := range of {
				if !yield(chans.Chan{L: sample.Blocks(l...)}) || !yield(chans.Chan{L: sample.Blocks(l...), Closed: true}) {
					return
				}
			}
		}
	}
}

// given tells some channels: those that may be at the bounds, and some that may not.
func given() []chans.Chan {
	var l []chans.Chan
	for _, of := range [][]int{nil, {1}, {8}, {1, 2}, {8, 8}, {8, 1}, {0}, {9}, {3, 0}, {9, 2}, {1, 1, 1}, {8, 8, 8, 8}} {
		l = append(l, chans.Chan{L: sample.Blocks(of...)}, chans.Chan{L: sample.Blocks(of...), Closed: true})
	}
	return l
}

// checkPut holds Put, at a channel and a block.
func checkPut(t *testing.T, c chans.Chan, b []int) {
	t.Helper()
	next, done := chans.Put(c, b)
	if want, wantDone := wantPut(c, b); !sample.SameChan(next, want) || done != wantDone {
		t.Fatalf("Put(%v, %v) = %v, %v; want %v, %v", c, b, next, done, want, wantDone)
	}
}

// check holds the other calls, at a channel.
func check(t *testing.T, c chans.Chan) {
	t.Helper()
	if sane, want := chans.Sane(c), wantSane(c); sane != want {
		t.Fatalf("Sane(%v) = %v; want %v", c, sane, want)
	}
	left, b, done := chans.Take(c)
	if wantLeft, want, wantDone := wantTake(c); !sample.SameChan(left, wantLeft) || !slices.Equal(b, want) || done != wantDone {
		t.Fatalf("Take(%v) = %v, %v, %v; want %v, %v, %v", c, left, b, done, wantLeft, want, wantDone)
	}
	if closed, want := chans.Close(c), wantClose(c); !sample.SameChan(closed, want) {
		t.Fatalf("Close(%v) = %v; want %v", c, closed, want)
	}
	if spent, want := chans.Spent(c), wantSpent(c); spent != want {
		t.Fatalf("Spent(%v) = %v; want %v", c, spent, want)
	}
	if n, want := chans.Count(c), wantCount(c); n != want {
		t.Fatalf("Count(%v) = %d; want %d", c, n, want)
	}
}

// P16.1

func TestSaneByHand(t *testing.T) {
	for k, x := range []struct {
		l    [][]int
		sane bool
	}{
		{nil, true},
		{[][]int{}, true},
		{[][]int{{7}}, true},
		{[][]int{{-1}, {math.MinInt}}, true},
		{[][]int{{1, 2, 3, 4, 5, 6, 7, 8}}, true},
		{[][]int{{1, 2, 3, 4, 5, 6, 7, 8}, {1, 2, 3, 4, 5, 6, 7, 8}}, true},
		{[][]int{{1, 2, 3, 4, 5, 6, 7, 8, 9}}, false},
		{[][]int{{1}, {1, 2, 3, 4, 5, 6, 7, 8, 9}}, false},
		{[][]int{{1, 2, 3, 4, 5, 6, 7, 8, 9}, {1}}, false},
		{[][]int{nil}, false},
		{[][]int{{}}, false},
		{[][]int{{1}, nil}, false},
		{[][]int{nil, {1}}, false},
		{[][]int{{1}, {2}, {3}}, false},
		{[][]int{nil, nil, nil}, false},
	} {
		for _, closed := range []bool{false, true} {
			if c := (chans.Chan{L: x.l, Closed: closed}); chans.Sane(c) != x.sane {
				t.Errorf("%d: Sane(%v) = %v", k, c, !x.sane)
			}
		}
	}
}

func TestEveryChannel(t *testing.T) {
	for c := range all() {
		check(t, c)
		for _, n := range few {
			checkPut(t, c, sample.Block(n, 5000))
		}
	}
}

// What is not Sane counts as an open channel without blocks, whichever it was.
func TestInsaneChannels(t *testing.T) {
	for c := range all() {
		if chans.Sane(c) {
			continue
		}
		if left, b, done := chans.Take(c); !sample.SameChan(left, chans.Chan{}) || len(b) > 0 || done {
			t.Fatalf("Take(%v) = %v, %v, %v", c, left, b, done)
		}
		if next, done := chans.Put(c, []int{7}); !sample.SameChan(next, chans.Chan{L: [][]int{{7}}}) || !done {
			t.Fatalf("Put(%v, 7) = %v, %v", c, next, done)
		}
		if next, done := chans.Put(c, nil); !sample.SameChan(next, chans.Chan{}) || done {
			t.Fatalf("Put(%v, nil) = %v, %v", c, next, done)
		}
		if closed := chans.Close(c); !sample.SameChan(closed, chans.Chan{Closed: true}) || chans.Spent(c) || chans.Count(c) != 0 {
			t.Fatalf("%v is not taken for nothing", c)
		}
	}
}

// P16.2

func TestExample(t *testing.T) {
	c, first := chans.Put(chans.Chan{}, []int{1, 2})
	c, second := chans.Put(c, []int{3})
	c, third := chans.Put(c, []int{4})
	if !first || !second || third {
		t.Errorf("put were %v, %v, %v; want the first two", first, second, third)
	}
	left, b, done := chans.Take(c)
	if !slices.Equal(b, []int{1, 2}) || !done || !sample.SameChan(left, chans.Chan{L: [][]int{{3}}}) {
		t.Errorf("Take(%v) = %v, %v, %v; want 3 left, and 1 2", c, left, b, done)
	}
}

func TestPutByHand(t *testing.T) {
	open := func(l ...[]int) chans.Chan { return chans.Chan{L: l} }
	closed := func(l ...[]int) chans.Chan { return chans.Chan{L: l, Closed: true} }
	eight, nine := []int{1, 2, 3, 4, 5, 6, 7, 8}, []int{1, 2, 3, 4, 5, 6, 7, 8, 9}
	for k, x := range []struct {
		c    chans.Chan
		b    []int
		next chans.Chan
		done bool
	}{
		{open(), []int{1}, open([]int{1}), true},
		{open(), []int{0}, open([]int{0}), true},
		{open(), eight, open(eight), true},
		{open(), nine, open(), false},
		{open(), nil, open(), false},
		{open(), []int{}, open(), false},
		{open([]int{1, 2}), []int{3}, open([]int{1, 2}, []int{3}), true},
		{open(eight), eight, open(eight, eight), true},
		{open(eight), nine, open(eight), false},
		{open([]int{1}), nil, open([]int{1}), false},
		{open([]int{1}, []int{2}), []int{3}, open([]int{1}, []int{2}), false},
		{open([]int{1}, []int{2}), nil, open([]int{1}, []int{2}), false},
		{closed(), []int{1}, closed(), false},
		{closed([]int{1}), []int{2}, closed([]int{1}), false},
		{closed([]int{1}, []int{2}), []int{3}, closed([]int{1}, []int{2}), false},
		{closed([]int{1}), nine, closed([]int{1}), false},
		{open(nil), []int{1}, open([]int{1}), true},
		{closed(nil), []int{1}, open([]int{1}), true},
		{closed(nine), []int{1}, open([]int{1}), true},
		{closed(nine), nine, open(), false},
		{open([]int{1}, []int{2}, []int{3}), eight, open(eight), true},
		{closed([]int{1}, []int{2}, []int{3}), []int{}, open(), false},
	} {
		if next, done := chans.Put(x.c, x.b); !sample.SameChan(next, x.next) || done != x.done {
			t.Errorf("%d: Put(%v, %v) = %v, %v; want %v, %v", k, x.c, x.b, next, done, x.next, x.done)
		}
	}
}

func TestPutOfLengths(t *testing.T) {
	for _, c := range given() {
		for n := range 300 {
			checkPut(t, c, sample.Block(n, 5000))
		}
		for _, n := range lengths {
			checkPut(t, c, sample.Block(n, 5000))
		}
	}
}

func TestTakeByHand(t *testing.T) {
	for k, x := range []struct {
		l, left [][]int
		b       []int
		done    bool
	}{
		{nil, nil, nil, false},
		{[][]int{}, nil, nil, false},
		{[][]int{{1, 2}}, nil, []int{1, 2}, true},
		{[][]int{{0}}, nil, []int{0}, true},
		{[][]int{{1, 2}, {3}}, [][]int{{3}}, []int{1, 2}, true},
		{[][]int{{3}, {1, 2, 3, 4, 5, 6, 7, 8}}, [][]int{{1, 2, 3, 4, 5, 6, 7, 8}}, []int{3}, true},
	} {
		for _, closed := range []bool{false, true} {
			c := chans.Chan{L: x.l, Closed: closed}
			left, b, done := chans.Take(c)
			if want := (chans.Chan{L: x.left, Closed: closed}); !sample.SameChan(left, want) || !slices.Equal(b, x.b) || done != x.done {
				t.Errorf("%d: Take(%v) = %v, %v, %v; want %v, %v, %v", k, c, left, b, done, want, x.b, x.done)
			}
		}
	}
}

// An item is any number: none stands for the end, nor for nothing.
func TestEveryNumber(t *testing.T) {
	for x := range sample.Numbers() {
		c, first := chans.Put(chans.Chan{}, []int{x})
		c, second := chans.Put(c, []int{7, x})
		left, b, third := chans.Take(c)
		_, more, fourth := chans.Take(left)
		if !first || !second || !third || !fourth || chans.Count(c) != 3 || !slices.Equal(b, []int{x}) || !slices.Equal(more, []int{7, x}) {
			t.Fatalf("of %#x, and 7 %#x, came %#x, %#x", x, x, b, more)
		}
	}
}

// P16.3

func TestCloseByHand(t *testing.T) {
	for k, x := range []struct {
		c     chans.Chan
		l     [][]int
		spent bool
		count int
	}{
		{chans.Chan{}, nil, false, 0},
		{chans.Chan{Closed: true}, nil, true, 0},
		{chans.Chan{L: [][]int{{5, 6, 7}}}, [][]int{{5, 6, 7}}, false, 3},
		{chans.Chan{L: [][]int{{5, 6, 7}}, Closed: true}, [][]int{{5, 6, 7}}, false, 3},
		{chans.Chan{L: [][]int{{5, 6, 7}, {8}}}, [][]int{{5, 6, 7}, {8}}, false, 4},
		{chans.Chan{L: [][]int{{5, 6, 7}, {8}}, Closed: true}, [][]int{{5, 6, 7}, {8}}, false, 4},
		{chans.Chan{L: sample.Blocks(8, 8)}, sample.Blocks(8, 8), false, 16},
		{chans.Chan{L: sample.Blocks(8, 9)}, nil, false, 0},
		{chans.Chan{L: sample.Blocks(8, 9), Closed: true}, nil, false, 0},
		{chans.Chan{L: sample.Blocks(1, 1, 1), Closed: true}, nil, false, 0},
		{chans.Chan{L: [][]int{{}}, Closed: true}, nil, false, 0},
	} {
		if closed, want := chans.Close(x.c), (chans.Chan{L: x.l, Closed: true}); !sample.SameChan(closed, want) {
			t.Errorf("%d: Close(%v) = %v; want %v", k, x.c, closed, want)
		}
		if spent := chans.Spent(x.c); spent != x.spent {
			t.Errorf("%d: Spent(%v) = %v", k, x.c, spent)
		}
		if n := chans.Count(x.c); n != x.count {
			t.Errorf("%d: Count(%v) = %d; want %d", k, x.c, n, x.count)
		}
		if spent, want := chans.Spent(chans.Close(x.c)), len(x.l) == 0; spent != want {
			t.Errorf("%d: once %v is closed it is spent: %v", k, x.c, spent)
		}
	}
}

// P16.4: what is done, in each order, against a list of the blocks that were put.

// An act is done with a channel, and what it leaves is told; so is what ought to be left in a list, and in whether that is closed.
type act func(t *testing.T, c chans.Chan, l [][]int, closed bool) (chans.Chan, [][]int, bool)

func put(n, from int) act {
	return func(t *testing.T, c chans.Chan, l [][]int, closed bool) (chans.Chan, [][]int, bool) {
		t.Helper()
		b := sample.Block(n, from)
		next, done := chans.Put(c, b)
		if want := n > 0 && n < 9 && len(l) < 2 && !closed; done != want {
			t.Fatalf("Put(%v, %v) is done: %v", c, b, done)
		}
		if done {
			l = append(slices.Clip(l), sample.Block(n, from))
		}
		return next, l, closed
	}
}

func take(t *testing.T, c chans.Chan, l [][]int, closed bool) (chans.Chan, [][]int, bool) {
	t.Helper()
	left, b, done := chans.Take(c)
	if done != (len(l) > 0) || !done && len(b) > 0 || done && !slices.Equal(b, l[0]) {
		t.Fatalf("Take(%v) = %v, %v, %v; %v was put", c, left, b, done, l)
	}
	if done {
		l = l[1:]
	}
	return left, l, closed
}

func closing(_ *testing.T, c chans.Chan, l [][]int, _ bool) (chans.Chan, [][]int, bool) {
	return chans.Close(c), l, true
}

// run does some acts with a new channel, and holds what it is behind each of them.
func run(t *testing.T, acts []act) {
	t.Helper()
	var c chans.Chan
	var l [][]int
	closed := false
	for k, do := range acts {
		c, l, closed = do(t, c, l, closed)
		if want := (chans.Chan{L: l, Closed: closed}); !sample.SameChan(c, want) {
			t.Fatalf("behind %d acts there is %v; want %v", k+1, c, want)
		}
		if n := chans.Count(c); !chans.Sane(c) || n > 16 || n != len(slices.Concat(l...)) || chans.Spent(c) != (closed && len(l) == 0) {
			t.Fatalf("behind %d acts there is %v, of %d items; it is Sane: %v; it is spent: %v", k+1, c, n, chans.Sane(c), chans.Spent(c))
		}
	}
}

func TestEveryOrderOfActs(t *testing.T) {
	for acts := range sample.Lists([]act{put(1, 100), put(8, 200), put(9, 300), put(0, 0), take, closing}, 7) {
		run(t, acts)
	}
}

// All items come out as they were put, however many, in whichever blocks.
func TestManyBlocks(t *testing.T) {
	for ahead := range 3 {
		var acts []act
		for k := range 5000 {
			acts = append(acts, put(1+k*k%8, 10*k))
			if k >= ahead {
				acts = append(acts, take)
			}
		}
		run(t, append(acts, closing, take, take, put(3, 7), take))
	}
}

// No list is too great to be refused.
func TestGreatLists(t *testing.T) {
	check(t, chans.Chan{L: make([][]int, 1<<20), Closed: true})
	check(t, chans.Chan{L: slices.Repeat([][]int{{1}}, 1<<20)})
	check(t, chans.Chan{L: sample.Blocks(1<<20, 3)})
	for _, c := range given() {
		if next, done := chans.Put(c, sample.Block(1<<20, 0)); done || !sample.SameChan(next, wantKnown(c)) {
			t.Errorf("a million items are put in %v: %v, %v", c, next, done)
		}
	}
}

// What is answered has memory of its own.

// spared tells a channel with room behind its list and behind each block, and what stands in all of it.
func spared(c chans.Chan) (chans.Chan, [][]int) {
	whole := make([][]int, len(c.L), len(c.L)+5)
	for k, b := range c.L {
		whole[k] = slices.Concat(b, sample.Row(20))[:len(b)]
	}
	for k := range 5 {
		whole = append(whole, sample.Block(3, -10*k))
	}
	return chans.Chan{L: whole[:len(c.L)], Closed: c.Closed}, whole
}

// scratch writes over all the memory of some lists and their blocks.
func scratch(lists ...[][]int) {
	for _, l := range lists {
		for _, b := range l {
			for k := range b[:cap(b)] {
				b[:cap(b)][k] = -7
			}
		}
		clear(l[:cap(l)])
	}
}

// checkSpared holds that nobody wrote on what was handed in, nor behind it.
func checkSpared(t *testing.T, c chans.Chan, whole [][]int) {
	t.Helper()
	for k, b := range whole {
		want, behind := sample.Block(3, -10*(k-len(c.L))), []int(nil)
		if k < len(c.L) {
			want, behind = c.L[k], sample.Row(20)
		}
		if !slices.Equal(b, want) || !slices.Equal(b[len(b):len(b)+len(behind)], behind) {
			t.Fatalf("of %v block %d was written: it is %v; want %v", c, k, b, want)
		}
	}
}

func TestAnswersApart(t *testing.T) {
	for _, was := range given() {
		for n := range 10 {
			c, whole := spared(was)
			b := slices.Concat(sample.Block(n, 500), sample.Row(20))
			first, _ := chans.Put(c, b[:n])
			second, done := chans.Put(c, b[:n])
			left, taken, _ := chans.Take(c)
			last, more, hasMore := chans.Take(c)
			closed := chans.Close(c)
			again := chans.Close(c)
			scratch(first.L, left.L, [][]int{taken}, closed.L)
			if want, wantDone := wantPut(was, sample.Block(n, 500)); !sample.SameChan(second, want) || done != wantDone {
				t.Fatalf("who changed other answers made of Put(%v) of %d items %v, %v; want %v, %v", was, n, second, done, want, wantDone)
			}
			if want, wantMore, wantDone := wantTake(was); !sample.SameChan(last, want) || !slices.Equal(more, wantMore) || hasMore != wantDone {
				t.Fatalf("who changed other answers made of Take(%v) %v, %v, %v; want %v, %v, %v", was, last, more, hasMore, want, wantMore, wantDone)
			}
			if want := wantClose(was); !sample.SameChan(again, want) {
				t.Fatalf("who changed other answers made of Close(%v) %v; want %v", was, again, want)
			}
			if !slices.Equal(b, slices.Concat(sample.Block(n, 500), sample.Row(20))) {
				t.Fatalf("Put(%v), or who changed its answer, made of the block %v", was, b)
			}
			checkSpared(t, was, whole)
		}
	}
}

// What was handed in may be changed once the call answered: that changes no answer.
func TestArgumentsApart(t *testing.T) {
	for _, was := range given() {
		c, whole := spared(was)
		b := []int{5, 6, 7}
		next, done := chans.Put(c, b)
		left, taken, has := chans.Take(c)
		closed := chans.Close(c)
		scratch([][]int{b}, whole)
		if want, wantDone := wantPut(was, []int{5, 6, 7}); !sample.SameChan(next, want) || done != wantDone {
			t.Errorf("who changed what was handed in made of Put(%v) %v, %v; want %v, %v", was, next, done, want, wantDone)
		}
		if want, wantTaken, wantHas := wantTake(was); !sample.SameChan(left, want) || !slices.Equal(taken, wantTaken) || has != wantHas {
			t.Errorf("who changed what was handed in made of Take(%v) %v, %v, %v; want %v, %v, %v", was, left, taken, has, want, wantTaken, wantHas)
		}
		if want := wantClose(was); !sample.SameChan(closed, want) {
			t.Errorf("who changed what was handed in made of Close(%v) %v; want %v", was, closed, want)
		}
	}
}

// No two lists of one answer share memory, be it that those handed in do.
func TestListsOfOneAnswerApart(t *testing.T) {
	l := sample.Block(8, 0)
	for _, c := range []chans.Chan{{L: [][]int{l, l}}, {L: [][]int{l[:4], l[4:]}}, {L: [][]int{l[:4], l[2:5]}, Closed: true}} {
		want := sample.CopyChan(c)
		left, taken, _ := chans.Take(c)
		scratch([][]int{taken})
		if !sample.SameChan(left, chans.Chan{L: want.L[1:], Closed: c.Closed}) {
			t.Errorf("who changed what was taken of %v left %v", want, left)
		}
		closed := chans.Close(c)
		scratch([][]int{closed.L[0]})
		if !slices.Equal(closed.L[1], want.L[1]) {
			t.Errorf("who changed the first block of %v made of the second one %v", want, closed.L[1])
		}
	}
	next, _ := chans.Put(chans.Chan{L: [][]int{l}}, l)
	scratch([][]int{next.L[0]})
	if want := sample.Block(8, 0); !slices.Equal(next.L[1], want) || !slices.Equal(l, want) {
		t.Errorf("who changed the first block made of the second one %v, and of what was handed in %v", next.L[1], l)
	}
}

// Two that go on from one channel do not go on in one list, whatever room stands behind it.
func TestTwoGoOn(t *testing.T) {
	for _, was := range []chans.Chan{{}, {L: [][]int{{1, 2}}}} {
		whole := append(make([][]int, 0, 10), was.L...)
		c := chans.Chan{L: whole}
		for range 3 {
			first, _ := chans.Put(c, []int{3})
			second, _ := chans.Put(c, []int{4, 5})
			_, _ = chans.Put(second, []int{6})
			if !sample.SameChan(first, chans.Chan{L: slices.Concat(was.L, [][]int{{3}})}) || !sample.SameChan(second, chans.Chan{L: slices.Concat(was.L, [][]int{{4, 5}})}) || !sample.SameChan(c, was) {
				t.Errorf("of %v, behind which 3 was put, and 4 5, came %v, and %v", was, first, second)
			}
			c, _, _ = chans.Take(chans.Chan{L: slices.Concat([][]int{{9}}, was.L)})
		}
		for _, b := range whole[len(was.L):cap(whole)] {
			if b != nil {
				t.Errorf("behind the list of %v %v was written", was, b)
			}
		}
	}
}

// The calls of several that go at once are as those of one, and the wrong ones leave nothing behind.
func TestCallsAtOnce(t *testing.T) {
	shared := given()
	var all sync.WaitGroup
	for range 8 {
		all.Go(func() {
			for n := range 200 {
				b := sample.Block(n%12, n)
				for _, c := range shared {
					next, done := chans.Put(c, b)
					left, taken, has := chans.Take(c)
					want, wantDone := wantPut(c, b)
					wantLeft, wantTaken, wantHas := wantTake(c)
					if !sample.SameChan(next, want) || done != wantDone || !sample.SameChan(left, wantLeft) || !slices.Equal(taken, wantTaken) || has != wantHas || !sample.SameChan(chans.Close(c), wantClose(c)) {
						t.Errorf("of %v and %v came %v, %v, and %v, %v, %v", c, b, next, done, left, taken, has)
						return
					}
				}
			}
		})
	}
	all.Wait()
}
