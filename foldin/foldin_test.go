package foldin_test

import (
	"math"
	"slices"
	"sync"
	"testing"

	"pentrough/api"
	"pentrough/casing"
	"pentrough/foldin"
	"pentrough/nfkc"
	"pentrough/norm"
	"pentrough/prop"
	"pentrough/sample"
)

// some: what becomes one other without its case, several, one that is no mark, and itself; what is dropped, Hangul's, a mark's and the Joiner among it; marks, what is put together with them, what is made of others that have a case; and what is no value.
var some = []int{
	'a', 'A', 0xC9, 0xDF, 0x130, 0x149, 0x390, 0x3B1, 0x1EAC, 0x301, 0x302, 0x30A, 0x323, 0x345, 0xAD, api.Joiner, 0x200D, 0xFE0F, 0xE0100, 0xFFA0,
	0x115F, 0x1160, 0x1100, 0x1161, 0x11A8, 0xAC00, 0x212B, 0xFF21, 0xFB01, -1, 1<<32 + 'A', 1<<32 + 0xAD,
}

// bad: numbers that are no values; some would have a case, or be dropped, once they are cut down to fewer bits.
var bad = append(sample.Bad(), -0x41, -0xAD, -0x34F, -1<<16+0x41, -1<<32+0xAD, math.MinInt+0xDF, math.MinInt+0x200D, 1<<21+0xE0100, 1<<31+0xAD, 1<<32+0x41, 1<<32+0xDF, 1<<32+0x34F, 1<<32+0xE0000, 1<<62+0xFEFF)

// What a value becomes is asked of casing, what is dropped of prop, and what the form is of norm and nfkc; what is made of these is told anew here, as near to the document's words as may be.

func wantLeft(l []int) []int {
	var left []int
	for _, r := range l {
		for _, x := range casing.Fold(r) {
			if !prop.Drops(x) {
				left = append(left, x)
			}
		}
	}
	return left
}

func wantFeed(l []int, r int) (left, told []int) {
	s := norm.State{}
	if norm.Sane(norm.State{L: l}) {
		s.L = l
	}
	for _, x := range wantLeft([]int{r}) {
		var more []int
		s, more = norm.Feed(s, x)
		told = append(told, more...)
	}
	return s.L, told
}

func wantAll(l []int) []int {
	var left, told []int
	for _, r := range l {
		var more []int
		left, more = wantFeed(left, r)
		told = append(told, more...)
	}
	return append(told, norm.End(norm.State{L: left})...)
}

// checkState holds Feed behind one State.
func checkState(t *testing.T, l []int, values ...int) {
	t.Helper()
	for _, r := range values {
		s, told := foldin.Feed(norm.State{L: l}, r)
		left, want := wantFeed(l, r)
		if !slices.Equal(s.L, left) || !slices.Equal(told, want) {
			t.Fatalf("Feed(%#x, %#x) = %#x, %#x; want %#x, %#x", l, r, s.L, told, left, want)
		}
		if !norm.Sane(s) {
			t.Fatalf("behind %#x, Feed of %#x leaves %#x, which is not Sane", l, r, s.L)
		}
	}
}

// check holds Left and All, and value by value what Feed tells, at one list: of whatever it begins with, what was told, and what the end tells, is the form of what is left.
func check(t *testing.T, l []int) {
	t.Helper()
	var s norm.State
	var told []int
	for k, r := range l {
		checkState(t, s.L, r)
		var more []int
		s, more = foldin.Feed(s, r)
		told = append(told, more...)
		if form := nfkc.Nfkc(wantLeft(l[:k+1])); !slices.Equal(slices.Concat(told, norm.End(s)), form) {
			t.Fatalf("of %#x was told %#x, with %#x left; the form is %#x", l[:k+1], told, s.L, form)
		}
	}
	checkAll(t, l)
}

// checkAll holds Left and All alone.
func checkAll(t *testing.T, l []int) {
	t.Helper()
	left, wanted := foldin.Left(l), wantLeft(l)
	if !slices.Equal(left, wanted) {
		t.Fatalf("Left(%#x) = %#x; want %#x", l, left, wanted)
	}
	if twice := foldin.Left(left); !slices.Equal(twice, left) {
		t.Fatalf("of %#x is left %#x, and of this %#x", l, left, twice)
	}
	all := foldin.All(l)
	if want := wantAll(l); !slices.Equal(all, want) {
		t.Fatalf("All(%#x) = %#x; want %#x", l, all, want)
	}
	if form := nfkc.Nfkc(wanted); !slices.Equal(all, form) {
		t.Fatalf("All(%#x) = %#x; the form of what is left is %#x", l, all, form)
	}
}

// strewn tells a list with what is dropped ahead of each of its values, and behind them.
func strewn(l []int) []int {
	dropped := []int{0xAD, 0x34F, 0x200D, 0x1160, 0xFE0F, 0xE0FFF}
	var all []int
	for k, r := range l {
		all = append(all, dropped[k%len(dropped)], r)
	}
	return append(all, dropped...)
}

// P10.1

func TestLeftByHand(t *testing.T) {
	for _, x := range []struct{ l, left []int }{
		{},
		{l: []int{}},
		{[]int{'a'}, []int{'a'}},
		{[]int{'A'}, []int{'a'}},
		{[]int{'A', 0xAD, 0x30A}, []int{'a', 0x30A}},
		{[]int{0xAD}, nil},
		{[]int{0xAD, 0x200D, 0xFE0F, 0x34F}, nil},
		{[]int{0xAD, 'B', 0xAD}, []int{'b'}},
		{[]int{'B', 0xAD, 'C'}, []int{'b', 'c'}},
		{[]int{0xDF}, []int{'s', 's'}},
		{[]int{0x200D, 0xDF, 0x200D, 0x130}, []int{'s', 's', 'i', 0x307}},
		{[]int{0x149, 0x390}, []int{0x2BC, 'n', 0x3B9, 0x308, 0x301}},
		{[]int{0x345}, []int{0x3B9}},
		{[]int{0x323, 0x301, 0x302, 0x323}, []int{0x323, 0x301, 0x302, 0x323}},
		{[]int{0xC9, 'e', 0x301, 'E', 0x301}, []int{0xE9, 'e', 0x301, 'e', 0x301}},
		{[]int{0x212B, 0xFF21, 0xFB01, 0x2160}, []int{0x212B, 0xFF21, 0xFB01, 0x2160}},
		{[]int{0x115E, 0x115F, 0x1160, 0x1161}, []int{0x115E, 0x1161}},
		{[]int{0xAC, 0xAD, 0xAE}, []int{0xAC, 0xAE}},
		{[]int{0x34E, 0x34F, 0x350}, []int{0x34E, 0x350}},
		{[]int{0x200A, 0x200B, 0x200F, 0x2010}, []int{0x200A, 0x2010}},
		{[]int{0xDFFFF, 0xE0000, 0xE0FFF, 0xE1000}, []int{0xDFFFF, 0xE1000}},
		{[]int{-1, 0xAD, math.MaxInt, 'Z', math.MinInt}, []int{-1, math.MaxInt, 'z', math.MinInt}},
		{[]int{1<<32 + 'A', 1<<32 + 0xAD, -0xAD}, []int{1<<32 + 'A', 1<<32 + 0xAD, -0xAD}},
		{sample.Row(40), sample.Row(40)},
	} {
		if left := foldin.Left(x.l); !slices.Equal(left, x.left) {
			t.Errorf("Left(%#x) = %#x; want %#x", x.l, left, x.left)
		}
		checkAll(t, x.l)
	}
}

func TestFeedByHand(t *testing.T) {
	row := sample.Row(30)
	for _, x := range []struct {
		l    []int
		r    int
		left []int
		told []int
	}{
		{l: nil, r: 'A', left: []int{'a'}},
		{l: nil, r: 'a', left: []int{'a'}},
		{l: nil, r: 0xAD},
		{l: nil, r: 0x34F},
		{l: nil, r: 0xC9, left: []int{'e', 0x301}},
		{l: nil, r: 0xDF, left: []int{'s'}, told: []int{'s'}},
		{l: nil, r: 0x130, left: []int{'i', 0x307}},
		{l: nil, r: 0x149, left: []int{'n'}, told: []int{0x2BC}},
		{l: nil, r: 0x390, left: []int{0x3B9, 0x308, 0x301}},
		{l: nil, r: 0x345, left: []int{0x3B9}},
		{l: nil, r: 0x212B, left: []int{'A', 0x30A}},
		{l: nil, r: 0x2161, left: []int{'I'}, told: []int{'I'}},
		{l: nil, r: -1, left: []int{-1}},
		{[]int{'a'}, 0xAD, []int{'a'}, nil},
		{[]int{'a'}, 0x30A, []int{'a', 0x30A}, nil},
		{[]int{'a'}, 'B', []int{'b'}, []int{'a'}},
		{[]int{'a'}, 1<<32 + 0xAD, []int{1<<32 + 0xAD}, []int{'a'}},
		{[]int{'a', 0x30A}, 0x200D, []int{'a', 0x30A}, nil},
		{[]int{'a', 0x30A}, 0xDF, []int{'s'}, []int{0xE5, 's'}},
		{[]int{'a', 0x30A}, 0x390, []int{0x3B9, 0x308, 0x301}, []int{0xE5}},
		{[]int{0x301}, 0x34F, []int{0x301}, nil},
		{[]int{0x301}, 0x345, []int{0x3B9}, []int{0x301}},
		{[]int{0x3B1, 0x301}, 0x345, []int{0x3B9}, []int{0x3AC}},
		{[]int{0x1100}, 0x1160, []int{0x1100}, nil},
		{[]int{0x1100}, 0x1161, []int{0xAC00}, nil},
		{[]int{0xAC00}, 0x115F, []int{0xAC00}, nil},
		// What is kept is not asked for its case, nor whether it is dropped.
		{[]int{'A'}, 0x30A, []int{'A', 0x30A}, nil},
		{[]int{'A', 0x30A}, 0xAD, []int{'A', 0x30A}, nil},
		{[]int{'A', 0x30A}, 'B', []int{'b'}, []int{0xC5}},
		{[]int{0xAD}, 0xAD, []int{0xAD}, nil},
		{[]int{0x34F, 0x345}, 'B', []int{'b'}, []int{0x34F, 0x345}},
		// A row that is as long as may be stays so behind what is dropped, the Joiner too.
		{row, 0x34F, row, nil},
		{row, 0x200D, row, nil},
		{row, 0x301, []int{0x34F, 0x301}, row},
		{row, 0x345, []int{0x3B9}, row},
		{row, 0x130, []int{'i', 0x307}, row},
		{row, 0xDF, []int{'s'}, append(sample.Row(30), 's')},
	} {
		s, told := foldin.Feed(norm.State{L: x.l}, x.r)
		if !slices.Equal(s.L, x.left) || !slices.Equal(told, x.told) {
			t.Errorf("Feed(%#x, %#x) = %#x, %#x; want %#x, %#x", x.l, x.r, s.L, told, x.left, x.told)
		}
		checkState(t, x.l, x.r)
	}
}

// What is not Sane counts as what is empty, also where nothing is left of the value.
func TestInsaneStates(t *testing.T) {
	for _, l := range [][]int{
		{'a', 'b'}, {0x301, 'e'}, {'e', 0x301, 0x323}, {0x301, 0x323}, {'e', -1}, {0x1100, 0x1161}, {'A', 0xAD}, {0xAD, 'A'}, {0x34F, 0x34F},
		sample.Row(31), append([]int{'e'}, sample.Row(31)...), sample.Row(1 << 12),
	} {
		for _, r := range slices.Concat(some, bad) {
			s, told := foldin.Feed(norm.State{L: l}, r)
			u, more := foldin.Feed(norm.State{}, r)
			if !slices.Equal(s.L, u.L) || !slices.Equal(told, more) {
				t.Fatalf("Feed(%#x, %#x) = %#x, %#x; behind nothing it is %#x, %#x", l, r, s.L, told, u.L, more)
			}
			checkState(t, l, r)
		}
	}
}

// Each State of few values, and those whose rows are all but full, behind each value.
func TestEveryState(t *testing.T) {
	for l := range sample.Lists(some, 2) {
		checkState(t, l, some...)
	}
	for n := range 33 {
		for _, head := range [][]int{nil, {'a'}, {'A'}, {0xE9}, {0xAD}, {0x34F}, {0xAC00}, {-1}} {
			checkState(t, append(head, sample.Row(n)...), some...)
		}
	}
}

// Every value, and many numbers beside them: alone, and behind a head with its mark.
func TestEveryValue(t *testing.T) {
	for r := range sample.Numbers() {
		alone := []int{r}
		if left, want := foldin.Left(alone), wantLeft(alone); !slices.Equal(left, want) {
			t.Fatalf("Left(%#x) = %#x; want %#x", r, left, want)
		}
		if all, form := foldin.All(alone), nfkc.Nfkc(wantLeft(alone)); !slices.Equal(all, form) {
			t.Fatalf("All(%#x) = %#x; the form of what is left is %#x", r, all, form)
		}
		checkState(t, []int{'a', 0x302}, r)
	}
}

func TestNumbersThatAreNoValues(t *testing.T) {
	for l := range sample.Lists(append([]int{'E', 0xAD, 0x301}, bad...), 2) {
		checkState(t, l, append(bad, 'E', 0xAD, 0x301)...)
		check(t, l)
	}
	if left := foldin.Left(bad); !slices.Equal(left, bad) {
		t.Errorf("of %#x, which are no values, is left %#x", bad, left)
	}
}

// P10.2, P10.3

// The document's example.
func TestExample(t *testing.T) {
	if all := foldin.All([]int{0x41, 0xAD, 0x30A}); !slices.Equal(all, []int{0xE5}) {
		t.Errorf("All of 41 AD 30A is %#x", all)
	}
}

func TestAllByHand(t *testing.T) {
	j := []int{0x34F}
	for _, x := range []struct{ l, all []int }{
		{},
		{l: []int{}},
		{[]int{'A'}, []int{'a'}},
		{[]int{'a', 'B', 'c'}, []int{'a', 'b', 'c'}},
		{[]int{0xAD}, nil},
		{[]int{0x200D, 0xFE0F, 0x34F, 0xE0100}, nil},
		{[]int{'E', 0x301}, []int{0xE9}},
		{[]int{'E', 0x34F, 0x301}, []int{0xE9}},
		{[]int{0xC9, 0xE9}, []int{0xE9, 0xE9}},
		{[]int{'A', 0x200D, 0x302, 0x34F, 0x323, 0xFE0F}, []int{0x1EAD}},
		{[]int{0x1EAC}, []int{0x1EAD}},
		{[]int{0xDF, 0x30A}, []int{'s', 's', 0x30A}},
		{[]int{0x130}, []int{'i', 0x307}},
		{[]int{0x390}, []int{0x390}},
		{[]int{0x3B1, 0x345, 0x301}, []int{0x3B1, 0x3AF}},
		{[]int{0x1100, 0x1160, 0x1161, 0xAD, 0x11A8}, []int{0xAC01}},
		{[]int{0x115F, 0x1161}, []int{0x1161}},
		{[]int{0xFFA0, 0x3164}, nil},
		// What has no case becomes in that form what has one.
		{[]int{0x212B}, []int{0xC5}},
		{[]int{0xFF21, 0x30A}, []int{0xC5}},
		{[]int{0x2163}, []int{'I', 'V'}},
		{[]int{0xFB01}, []int{'f', 'i'}},
		{[]int{-1, 0xAD, 'A', math.MaxInt}, []int{-1, 'a', math.MaxInt}},
		// The Joiner is dropped, and put anew where the row is full.
		{slices.Concat(sample.Row(30), j), sample.Row(30)},
		{sample.Row(31), slices.Concat(sample.Row(30), j, sample.Row(1))},
		{slices.Concat(sample.Row(30), j, sample.Row(30)), slices.Concat(sample.Row(30), j, sample.Row(30))},
		{slices.Concat(sample.Row(15), j, sample.Row(16)), slices.Concat(sample.Row(30), j, sample.Row(1))},
		{slices.Concat(sample.Row(30), []int{0x345}, sample.Row(30)), slices.Concat(sample.Row(30), []int{0x3AF}, sample.Row(29))},
	} {
		if all := foldin.All(x.l); !slices.Equal(all, x.all) {
			t.Errorf("All(%#x) = %#x; want %#x", x.l, all, x.all)
		}
		check(t, x.l)
	}
}

func TestAllShortLists(t *testing.T) {
	for l := range sample.Lists(some, 2) {
		check(t, l)
	}
	for l := range sample.Lists([]int{'A', 0xDF, 0x390, 0x301, 0x345, 0xAD, 0x34F, 0x1100, 0x1160, 0x1161, 0x212B}, 4) {
		checkAll(t, l)
	}
}

// Value by value only those that are not much longer than what is kept: the longer ones begin as others do.
func TestHardLists(t *testing.T) {
	for l := range sample.Hard() {
		if len(l) <= 33 {
			check(t, l)
		} else {
			checkAll(t, l)
		}
	}
}

// Of what is dropped nothing is told, and nothing is changed by it: each such value, alone, between two that are one, and behind what is kept.
func TestEveryDroppedValue(t *testing.T) {
	kept := [][]int{nil, {'e'}, {'E', 0x301}, {0xAC00}, sample.Row(30), append([]int{0x34F}, sample.Row(30)...)}
	for r := range sample.Numbers() {
		if !prop.Drops(r) {
			continue
		}
		if left, all := foldin.Left([]int{r, r}), foldin.All([]int{r, r}); len(left)+len(all) > 0 {
			t.Fatalf("of %#x, which is dropped, is left %#x, and told %#x", r, left, all)
		}
		if all := foldin.All([]int{r, 'E', r, 0x301, r, 0x1100, r, 0x1161, r}); !slices.Equal(all, []int{0xE9, 0xAC00}) {
			t.Fatalf("45 301 1100 1161 with %#x between them are %#x", r, all)
		}
		for _, l := range kept {
			if s, told := foldin.Feed(norm.State{L: l}, r); !slices.Equal(s.L, l) || len(told) > 0 {
				t.Fatalf("Feed(%#x, %#x) = %#x, %#x", l, r, s.L, told)
			}
		}
	}
}

func TestDroppedBetween(t *testing.T) {
	for l := range sample.Hard() {
		if all, want := foldin.All(strewn(l)), foldin.All(l); !slices.Equal(all, want) {
			t.Fatalf("All(%#x) is %#x; without what is dropped it is %#x", strewn(l), all, want)
		}
	}
}

// What is alike but for its case is the same.
func TestCaseIsGone(t *testing.T) {
	for l := range sample.Lists(some, 2) {
		if all, want := foldin.All(l), foldin.All(casing.All(l)); !slices.Equal(all, want) {
			t.Fatalf("All(%#x) = %#x; without its case it is %#x", l, all, want)
		}
	}
}

// No more is kept of a great list than of a small one, and it ends as soon, for its length.
func TestGreatLists(t *testing.T) {
	marks := strewn(sample.Strewn(1 << 14))
	form := nfkc.Nfkc(wantLeft(marks))
	if all := foldin.All(marks); !slices.Equal(all, form) {
		t.Errorf("of %d values came %d; the form has %d", len(marks), len(all), len(form))
	}
	var s norm.State
	var told []int
	for _, r := range marks {
		var more []int
		s, more = foldin.Feed(s, r)
		told = append(told, more...)
		if len(s.L) > 31 {
			t.Fatalf("%#x is left", s.L)
		}
	}
	if !slices.Equal(append(told, norm.End(s)...), form) {
		t.Errorf("of %d values, one by one, came %d; the form has %d", len(marks), len(told), len(form))
	}
	many := slices.Repeat([]int{0xC2, 0xAD, 0x323, 0xDF}, 1<<14)
	if all := foldin.All(many); !slices.Equal(all, slices.Repeat([]int{0x1EAD, 's', 's'}, 1<<14)) {
		t.Error("many rows are not put together")
	}
	if all := foldin.All(slices.Repeat([]int{0xAD}, 1<<16)); len(all) > 0 {
		t.Errorf("of much that is dropped %d values were told", len(all))
	}
}

// Nothing is kept: who changes an answer changes no other one, made before or after it, nor what was handed in, nor what stands behind this in its memory.
func TestAnswersApart(t *testing.T) {
	few := []int{'a', 'A', 0xDF, 0x302, 0x323, 0xAD}
	for l := range sample.Lists(few, 3) {
		spare := slices.Concat(l, sample.Row(40))
		in := spare[:len(l)]
		for _, r := range few {
			s, told := foldin.Feed(norm.State{L: in}, r)
			for _, answer := range [][]int{s.L, told} {
				clear(answer[:cap(answer)])
			}
			checkState(t, in, r)
		}
		for _, answer := range [][]int{foldin.Left(in), foldin.All(in)} {
			clear(answer[:cap(answer)])
		}
		if !slices.Equal(spare, slices.Concat(l, sample.Row(40))) {
			t.Fatalf("the calls of %#x, and who changed their answers, made of it, and of what stands behind it, %#x", l, spare)
		}
		checkAll(t, l)
	}
}

// Nothing is kept: the calls of several that go at once are as those of one, and the wrong ones leave nothing behind.
func TestCallsAtOnce(t *testing.T) {
	given := norm.State{L: []int{'a', 0x302}}
	var all sync.WaitGroup
	for range 8 {
		all.Go(func() {
			for _, r := range bad {
				foldin.All([]int{r, 0x345, 0x301, r})
				foldin.Feed(norm.State{L: []int{'e', r, 0x301}}, r)
				s, told := foldin.Feed(given, 0xDF)
				if !slices.Equal(s.L, []int{'s'}) || !slices.Equal(told, []int{0xE2, 's'}) || !slices.Equal(foldin.Left([]int{0xDF, 0xAD}), []int{'s', 's'}) {
					t.Errorf("behind %#x, of 0061 0302 and 00DF is left %#x, and %#x is told", r, s.L, told)
					return
				}
			}
		})
	}
	all.Wait()
}
