package norm_test

import (
	"math"
	"slices"
	"sync"
	"testing"

	"pentrough/api"
	"pentrough/canon"
	"pentrough/decomp"
	"pentrough/nfkc"
	"pentrough/norm"
	"pentrough/pair"
	"pentrough/prop"
	"pentrough/sample"
)

// some: marks of many a class, what is put together with them or with one another, what is made of one other and of several, wide, the Joiner, what is neither, and what is no value.
var some = []int{
	'a', 'A', 0xE2, 0x1EAD, 0xC5, 0xFB01, 0xFF21, 0xA8, 0x958, 0x301, 0x302, 0x30A, 0x323, 0x334, 0x345, api.Joiner,
	0x1100, 0x1161, 0x11A8, 0xAC00, 0xAC01, -1, 1<<32 + 0x301,
}

// bad: numbers that are no values.
var bad = sample.Bad()

// What a value is made of is asked of decomp, marks' classes of prop, pairs of pair, and what is put together of canon; what is made of these is told anew here, as near to the document's words as may be, and as slowly.

// wantSane goes over each value and each two that stand side by side.
func wantSane(l []int) bool {
	count := 0
	for k, r := range l {
		if prop.Mark(r) {
			count++
		} else if k > 0 {
			return false
		}
		if k > 0 && prop.Ccc(r) < prop.Ccc(l[k-1]) {
			return false
		}
	}
	return count <= 30
}

// wantHead puts what is no mark: what is left, and what is told.
func wantHead(l []int, d int) (left, told []int) {
	c := canon.Compose(l)
	if len(c) != 1 || prop.Mark(c[0]) {
		return []int{d}, c
	}
	whole, is := pair.Join(c[0], d)
	if !is {
		return []int{d}, c
	}
	return []int{whole}, nil
}

// wantMark puts a mark.
func wantMark(l []int, d int) (left, told []int) {
	count := 0
	for _, r := range l {
		if prop.Mark(r) {
			count++
		}
	}
	if count == 30 {
		l, told = wantHead(l, 0x34F)
	}
	var greater []int
	for _, r := range l {
		if prop.Ccc(r) > prop.Ccc(d) {
			greater = append(greater, r)
		} else {
			left = append(left, r)
		}
	}
	return append(append(left, d), greater...), told
}

func wantFeed(l []int, r int) (left, told []int) {
	if wantSane(l) {
		left = l
	}
	for _, d := range decomp.Full(r) {
		put := wantHead
		if prop.Mark(d) {
			put = wantMark
		}
		var more []int
		left, more = put(left, d)
		told = append(told, more...)
	}
	return left, told
}

func wantEnd(l []int) []int {
	if !wantSane(l) {
		return nil
	}
	return canon.Compose(l)
}

func wantAll(l []int) []int {
	var left, told []int
	for _, r := range l {
		var more []int
		left, more = wantFeed(left, r)
		told = append(told, more...)
	}
	return append(told, wantEnd(left)...)
}

// checkState holds the calls that are handed a State, at one.
func checkState(t *testing.T, l []int, values ...int) {
	t.Helper()
	s := norm.State{L: l}
	if sane, want := norm.Sane(s), wantSane(l); sane != want {
		t.Fatalf("Sane(%#x) = %v; want %v", l, sane, want)
	}
	if end, want := norm.End(s), wantEnd(l); !slices.Equal(end, want) {
		t.Fatalf("End(%#x) = %#x; want %#x", l, end, want)
	}
	for _, r := range values {
		left, told := norm.Feed(s, r)
		wantLeft, wantTold := wantFeed(l, r)
		if !slices.Equal(left.L, wantLeft) || !slices.Equal(told, wantTold) {
			t.Fatalf("Feed(%#x, %#x) = %#x, %#x; want %#x, %#x", l, r, left.L, told, wantLeft, wantTold)
		}
		if !norm.Sane(left) || len(left.L) > 31 {
			t.Fatalf("behind %#x, Feed of %#x leaves %#x, of %d values; it is Sane: %v", l, r, left.L, len(left.L), norm.Sane(left))
		}
	}
}

// check holds All, and value by value what Feed and End tell, at one list: of whatever it begins with, what was told, and what the end tells, is the form.
func check(t *testing.T, l []int) {
	t.Helper()
	var s norm.State
	var told []int
	for k, r := range l {
		checkState(t, s.L, r)
		var more []int
		s, more = norm.Feed(s, r)
		told = append(told, more...)
		if form := nfkc.Nfkc(l[:k+1]); !slices.Equal(slices.Concat(told, norm.End(s)), form) {
			t.Fatalf("of %#x was told %#x, with %#x left; the form is %#x", l[:k+1], told, s.L, form)
		}
	}
	checkAll(t, l)
}

// checkAll holds All alone.
func checkAll(t *testing.T, l []int) {
	t.Helper()
	all := norm.All(l)
	if want := wantAll(l); !slices.Equal(all, want) {
		t.Fatalf("All(%#x) = %#x; want %#x", l, all, want)
	}
	if form := nfkc.Nfkc(l); !slices.Equal(all, form) {
		t.Fatalf("All(%#x) = %#x; the form is %#x", l, all, form)
	}
}

// behind tells values with a head ahead of them.
func behind(head int, l ...int) []int { return append([]int{head}, l...) }

// P9.1

func TestSaneByHand(t *testing.T) {
	for _, x := range []struct {
		l    []int
		sane bool
	}{
		{nil, true}, {[]int{}, true}, {[]int{'a'}, true}, {[]int{0x301}, true}, {[]int{0xE9}, true}, {[]int{0xFB01}, true}, {[]int{-1}, true}, {[]int{math.MaxInt}, true},
		{[]int{'a', 0x301}, true}, {[]int{0x34F, 0x301}, true}, {[]int{math.MinInt, 0x301}, true}, {[]int{0x323, 0x301}, true}, {[]int{'a', 0x323, 0x301}, true}, {[]int{0x301, 0x301}, true}, {[]int{'a', 0x301, 0x302}, true}, {[]int{'a', 0x302, 0x301}, true},
		{[]int{'a', 'b'}, false}, {[]int{0x301, 'a'}, false}, {[]int{0x301, 0x34F}, false}, {[]int{'a', 0x301, 'b'}, false}, {[]int{0x1100, 0x1161}, false}, {[]int{'a', -1}, false}, {[]int{0x301, 1<<32 + 0x301}, false}, {[]int{-1, -1}, false},
		{[]int{0x301, 0x323}, false}, {[]int{'a', 0x301, 0x323}, false}, {[]int{'a', 0x345, 0x301}, false}, {[]int{'a', 0x323, 0x301, 0x323}, false}, {[]int{'a', 0x323, 0x301, 'b', 0x301}, false},
		{sample.Row(29), true}, {sample.Row(30), true}, {sample.Row(31), false}, {sample.Row(32), false}, {sample.Row(1 << 16), false},
		{behind('a', sample.Row(29)...), true}, {behind('a', sample.Row(30)...), true}, {behind('a', sample.Row(31)...), false}, {behind(-1, sample.Row(30)...), true}, {behind(0xE9, sample.Row(31)...), false},
		{slices.Concat([]int{'a'}, sample.Row(29), []int{'b'}), false}, {slices.Concat([]int{'a'}, sample.Row(29), []int{0x323}), false}, {slices.Concat([]int{0x323}, sample.Row(29)), true}, {slices.Concat([]int{0x323}, sample.Row(30)), false},
		{slices.Concat(sample.Row(15), []int{'a'}, sample.Row(15)), false}, {slices.Repeat([]int{'a'}, 1<<16), false},
	} {
		if sane := norm.Sane(norm.State{L: x.l}); sane != x.sane {
			t.Errorf("Sane(%#x) = %v", x.l, sane)
		}
		if sane := wantSane(x.l); sane != x.sane {
			t.Errorf("the test takes Sane(%#x) to be %v", x.l, sane)
		}
	}
}

// What is not Sane counts as what is empty.
func TestInsaneStates(t *testing.T) {
	for _, l := range [][]int{
		{'a', 'b'}, {0x301, 'e'}, {'e', 0x301, 0x323}, {'e', 0x301, 'e'}, {0x301, 0x323}, {'e', -1}, {0x1100, 0x1161}, {0x1100, 0x1161, 0x11A8}, {0xAC00, 0x11A8},
		sample.Row(31), behind('e', sample.Row(31)...), sample.Row(1 << 12), behind('e', 0x345, 0x301), {0x34F, 0x34F},
	} {
		for _, r := range slices.Concat(some, bad) {
			s, told := norm.Feed(norm.State{L: l}, r)
			u, more := norm.Feed(norm.State{}, r)
			if !slices.Equal(s.L, u.L) || !slices.Equal(told, more) {
				t.Fatalf("Feed(%#x, %#x) = %#x, %#x; behind nothing it is %#x, %#x", l, r, s.L, told, u.L, more)
			}
		}
		if told := norm.End(norm.State{L: l}); len(told) > 0 {
			t.Fatalf("End(%#x) = %#x", l, told)
		}
	}
}

// P9.2, P9.3

func TestFeedByHand(t *testing.T) {
	for _, x := range []struct {
		l    []int
		r    int
		left []int
		told []int
		end  []int // what the end tells of l
	}{
		{l: nil, r: 'a', left: []int{'a'}},
		{l: nil, r: 0x301, left: []int{0x301}},
		{l: nil, r: 0xE9, left: []int{'e', 0x301}},
		{l: nil, r: 0xAC01, left: []int{0xAC01}},
		{l: nil, r: 0xFB01, left: []int{'i'}, told: []int{'f'}},
		{l: nil, r: 0xB4, left: []int{' ', 0x301}},
		{l: nil, r: 0x344, left: []int{0x344}},
		{l: nil, r: 0x1EAD, left: []int{'a', 0x323, 0x302}},
		{l: nil, r: -1, left: []int{-1}},
		{l: nil, r: 0x34F, left: []int{0x34F}},
		{[]int{'a'}, 0x301, []int{'a', 0x301}, nil, []int{'a'}},
		{[]int{'a'}, 'b', []int{'b'}, []int{'a'}, []int{'a'}},
		{[]int{'a'}, -1, []int{-1}, []int{'a'}, []int{'a'}},
		{[]int{-1}, 'a', []int{'a'}, []int{-1}, []int{-1}},
		{[]int{-1}, 0x301, []int{-1, 0x301}, nil, []int{-1}},
		{[]int{'e', 0x301}, 'b', []int{'b'}, []int{0xE9}, []int{0xE9}},
		{[]int{'e', 0x301}, 0x301, []int{'e', 0x301, 0x301}, nil, []int{0xE9}},
		{[]int{'a', 0x302}, 0x323, []int{'a', 0x323, 0x302}, nil, []int{0xE2}},
		{[]int{'a', 0x323}, 0x302, []int{'a', 0x323, 0x302}, nil, []int{0x1EA1}},
		{[]int{'a', 0x323, 0x302}, 'b', []int{'b'}, []int{0x1EAD}, []int{0x1EAD}},
		{[]int{'a', 0x334, 0x301}, 'b', []int{'b'}, []int{0xE1, 0x334}, []int{0xE1, 0x334}},
		{[]int{'a', 0x301}, 0x302, []int{'a', 0x301, 0x302}, nil, []int{0xE1}},
		{[]int{'a', 0x302}, 0x301, []int{'a', 0x302, 0x301}, nil, []int{0xE2}},
		{[]int{0x345}, 0x334, []int{0x334, 0x345}, nil, []int{0x345}},
		{[]int{0x301, 0x345}, 0x302, []int{0x301, 0x302, 0x345}, nil, []int{0x301, 0x345}},
		{[]int{0x301}, 'e', []int{'e'}, []int{0x301}, []int{0x301}},
		{[]int{0x301, 0x302}, 0x34F, []int{0x34F}, []int{0x301, 0x302}, []int{0x301, 0x302}},
		{[]int{0x34F}, 0x301, []int{0x34F, 0x301}, nil, []int{0x34F}},
		{[]int{0x34F, 0x301}, 0x34F, []int{0x34F}, []int{0x34F, 0x301}, []int{0x34F, 0x301}},
		{[]int{0x1100}, 0x1161, []int{0xAC00}, nil, []int{0x1100}},
		{[]int{0xAC00}, 0x11A8, []int{0xAC01}, nil, []int{0xAC00}},
		{[]int{0xAC01}, 0x11A8, []int{0x11A8}, []int{0xAC01}, []int{0xAC01}},
		{[]int{0xAC00}, 0xAC01, []int{0xAC01}, []int{0xAC00}, []int{0xAC00}},
		{[]int{0x1100, 0x301}, 0x1161, []int{0x1161}, []int{0x1100, 0x301}, []int{0x1100, 0x301}},
		{[]int{0xAC00, 0x301}, 0x11A8, []int{0x11A8}, []int{0xAC00, 0x301}, []int{0xAC00, 0x301}},
		{[]int{'x'}, 0x2177, []int{'i'}, []int{'x', 'v', 'i', 'i'}, []int{'x'}},
		{[]int{'a', 0x345}, 0x1EAD, []int{'a', 0x323, 0x302}, []int{'a', 0x345}, []int{'a', 0x345}},
		{[]int{0xE2}, 0x323, []int{0xE2, 0x323}, nil, []int{0xE2}},
		{[]int{0xE2}, 'b', []int{'b'}, []int{0xE2}, []int{0xE2}},
		{[]int{0xFB01}, 'b', []int{'b'}, []int{0xFB01}, []int{0xFB01}},
	} {
		s, told := norm.Feed(norm.State{L: x.l}, x.r)
		if !slices.Equal(s.L, x.left) || !slices.Equal(told, x.told) {
			t.Errorf("Feed(%#x, %#x) = %#x, %#x; want %#x, %#x", x.l, x.r, s.L, told, x.left, x.told)
		}
		if end := norm.End(norm.State{L: x.l}); !slices.Equal(end, x.end) {
			t.Errorf("End(%#x) = %#x; want %#x", x.l, end, x.end)
		}
		checkState(t, x.l, x.r)
	}
}

// The document's example.
func TestExample(t *testing.T) {
	s, told := norm.Feed(norm.State{}, 0x65)
	if len(told) > 0 {
		t.Errorf("of 65 was told %#x", told)
	}
	s, told = norm.Feed(s, 0x301)
	if len(told) > 0 {
		t.Errorf("of 65 301 was told %#x", told)
	}
	s, told = norm.Feed(s, 0x66)
	if !slices.Equal(told, []int{0xE9}) || !slices.Equal(s.L, []int{0x66}) {
		t.Errorf("of 65 301 66 was told %#x, and %#x is left", told, s.L)
	}
}

// A mark behind 30 goes behind a Joiner, so that all ahead of this is told.
func TestFeedBehindFullRow(t *testing.T) {
	for _, x := range []struct {
		l    []int
		r    int
		left []int
		told []int
	}{
		{sample.Row(29), 0x301, sample.Row(30), nil},
		{sample.Row(29), 0x323, behind(0x323, sample.Row(29)...), nil},
		{sample.Row(30), 0x301, []int{0x34F, 0x301}, sample.Row(30)},
		{sample.Row(30), 0x323, []int{0x34F, 0x323}, sample.Row(30)},
		{sample.Row(30), 'e', []int{'e'}, sample.Row(30)},
		{sample.Row(30), 0x34F, []int{0x34F}, sample.Row(30)},
		{sample.Row(30), 0xFB01, []int{'i'}, append(sample.Row(30), 'f')},
		{sample.Row(29), 0xE9, []int{'e', 0x301}, sample.Row(29)},
		{behind('e', sample.Row(29)...), 0x301, behind('e', sample.Row(30)...), nil},
		{behind('e', sample.Row(29)...), 0x323, slices.Concat([]int{'e', 0x323}, sample.Row(29)), nil},
		{behind('e', sample.Row(30)...), 0x301, []int{0x34F, 0x301}, behind(0xE9, sample.Row(29)...)},
		{behind('e', sample.Row(30)...), 0x323, []int{0x34F, 0x323}, behind(0xE9, sample.Row(29)...)},
		{behind('e', sample.Row(30)...), 0xE9, []int{'e', 0x301}, behind(0xE9, sample.Row(29)...)},
		{behind('e', sample.Row(30)...), -1, []int{-1}, behind(0xE9, sample.Row(29)...)},
		{behind(0xE9, sample.Row(30)...), 0x301, []int{0x34F, 0x301}, behind(0xE9, sample.Row(30)...)},
		{behind(0x34F, sample.Row(30)...), 0x301, []int{0x34F, 0x301}, behind(0x34F, sample.Row(30)...)},
		{behind(0x1100, sample.Row(30)...), 0x1161, []int{0x1161}, behind(0x1100, sample.Row(30)...)},
	} {
		s, told := norm.Feed(norm.State{L: x.l}, x.r)
		if !slices.Equal(s.L, x.left) || !slices.Equal(told, x.told) {
			t.Errorf("Feed(%#x, %#x) = %#x, %#x; want %#x, %#x", x.l, x.r, s.L, told, x.left, x.told)
		}
		checkState(t, x.l, append(bad, some...)...)
	}
}

// Each State of few values, and those of some heads and rows that are all but full, behind each value.
func TestEveryState(t *testing.T) {
	for l := range sample.Lists(some, 2) {
		checkState(t, l, some...)
	}
	long := canon.Order(sample.Strewn(31))
	for n := range len(long) + 1 {
		for _, l := range [][]int{long[:n], long[len(long)-n:], sample.Row(n)} {
			for _, head := range []int{'a', 'o', 0xE2, 0x34F, 0xAC00, 0xFB01, -1} {
				checkState(t, behind(head, l...), some...)
			}
			checkState(t, l, some...)
		}
	}
}

// The same of states whose values may be no values, and of values that are none.
func TestNumbersThatAreNoValues(t *testing.T) {
	for l := range sample.Lists(append([]int{'e', 0x301, 0x323}, bad...), 2) {
		checkState(t, l, append(bad, 'e', 0x301, 0x323)...)
		check(t, l)
	}
}

// Each two marks, behind a head and without one: the second stands ahead of the first if its class is lower.
func TestEveryTwoMarks(t *testing.T) {
	all := sample.Marks()
	for _, a := range all {
		for _, b := range all {
			want := []int{a, b}
			if prop.Ccc(b) < prop.Ccc(a) {
				want = []int{b, a}
			}
			s, told := norm.Feed(norm.State{L: []int{a}}, b)
			u, more := norm.Feed(norm.State{L: []int{'x', a}}, b)
			if !slices.Equal(s.L, want) || !slices.Equal(u.L, behind('x', want...)) || len(told)+len(more) > 0 {
				t.Fatalf("behind %#x, of %#x is left %#x, and told %#x; behind them and a head %#x and %#x", a, b, s.L, told, u.L, more)
			}
		}
	}
}

// Every value, and many numbers beside them: behind a head with its mark, and alone.
func TestEveryValue(t *testing.T) {
	l := []int{'a', 0x302}
	for r := range sample.Numbers() {
		s, told := norm.Feed(norm.State{L: l}, r)
		left, want := wantFeed(l, r)
		if !slices.Equal(s.L, left) || !slices.Equal(told, want) {
			t.Fatalf("Feed(%#x, %#x) = %#x, %#x; want %#x, %#x", l, r, s.L, told, left, want)
		}
		if all, form := norm.All([]int{r}), nfkc.Nfkc([]int{r}); !slices.Equal(all, form) {
			t.Fatalf("All(%#x) = %#x; the form is %#x", r, all, form)
		}
	}
}

// Every two values that are one: the first, whatever it is made of, and the second behind it.
func TestEveryPair(t *testing.T) {
	for whole := range 0x11000 {
		a, b, is := pair.Back(whole)
		if !is {
			continue
		}
		if all := norm.All([]int{a, b}); !slices.Equal(all, []int{whole}) {
			t.Fatalf("All of %#x and %#x, which are %#x together, is %#x", a, b, whole, all)
		}
		if whole >= 0xAC00 && whole%64 > 0 {
			continue
		}
		checkState(t, []int{a}, b)
		for _, l := range [][]int{{a, b, b}, {whole, 0x323, 0x301}, {a, 0x334, b}, {'x', a, b, 0xFB01}} {
			check(t, l)
		}
	}
}

// P9.3, P9.4

func TestAllByHand(t *testing.T) {
	j := []int{0x34F}
	for _, x := range []struct{ l, all []int }{
		{},
		{l: []int{}},
		{[]int{'a'}, []int{'a'}},
		{[]int{0x301}, []int{0x301}},
		{[]int{'e', 0x301}, []int{0xE9}},
		{[]int{0xE9}, []int{0xE9}},
		{[]int{'e', 0x301, 'f', 0xFB01}, []int{0xE9, 'f', 'f', 'i'}},
		{[]int{0x301, 0x323, 'a', 0x302, 0x323}, []int{0x323, 0x301, 0x1EAD}},
		{[]int{0xFF21, 0x30A}, []int{0xC5}},
		{[]int{0x212B}, []int{0xC5}},
		{[]int{0x958}, []int{0x915, 0x93C}},
		{[]int{0x1100, 0x1161, 0x11A8, 0x11A8}, []int{0xAC01, 0x11A8}},
		{[]int{0xAC00, 0x11A8, 0x1161}, []int{0xAC01, 0x1161}},
		{[]int{-1, 0x345, 0x301, math.MaxInt}, []int{-1, 0x301, 0x345, math.MaxInt}},
		{behind('e', sample.Row(30)...), behind(0xE9, sample.Row(29)...)},
		{behind('e', sample.Row(31)...), slices.Concat([]int{0xE9}, sample.Row(29), j, sample.Row(1))},
		{behind(0xE9, sample.Row(30)...), slices.Concat([]int{0xE9}, sample.Row(29), j, sample.Row(1))},
		{sample.Row(61), slices.Concat(sample.Row(30), j, sample.Row(30), j, sample.Row(1))},
		{slices.Concat(sample.Row(30), j, sample.Row(30)), slices.Concat(sample.Row(30), j, sample.Row(30))},
	} {
		if all := norm.All(x.l); !slices.Equal(all, x.all) {
			t.Errorf("All(%#x) = %#x; want %#x", x.l, all, x.all)
		}
		check(t, x.l)
	}
}

func TestAllShortLists(t *testing.T) {
	for l := range sample.Lists(some, 3) {
		checkAll(t, l)
	}
	for l := range sample.Lists(some, 2) {
		check(t, l)
	}
}

// Value by value only those that are not much longer than what is kept: the longer ones begin as others do.
func TestHardLists(t *testing.T) {
	for l := range sample.Hard() {
		if len(l) <= 40 {
			check(t, l)
		}
		checkAll(t, l)
	}
}

// No more is kept of a great list than of a small one, and it ends as soon, for its length.
func TestGreatLists(t *testing.T) {
	marks := sample.Strewn(1 << 16)
	if all := norm.All(marks); !slices.Equal(all, nfkc.Nfkc(marks)) || len(all) != len(marks)+(len(marks)-1)/30 {
		t.Errorf("of %d marks came %d values", len(marks), len(all))
	}
	var s norm.State
	count := 0
	for _, r := range marks {
		var told []int
		s, told = norm.Feed(s, r)
		count += len(told)
		if len(s.L) > 31 || !norm.Sane(s) {
			t.Fatalf("%#x is left", s.L)
		}
	}
	if count+len(norm.End(s)) != len(marks)+(len(marks)-1)/30 {
		t.Errorf("of %d marks, one by one, %d values were told", len(marks), count)
	}
	many := slices.Repeat([]int{0xE2, 0x323, 0xFB01}, 1<<15)
	if all := norm.All(many); !slices.Equal(all, slices.Repeat([]int{0x1EAD, 'f', 'i'}, 1<<15)) {
		t.Error("many rows are not put together")
	}
}

// Nothing is kept: who changes an answer changes no other one, made before or after it, nor what was handed in, nor what stands behind this in its memory.
func TestAnswersApart(t *testing.T) {
	for l := range sample.Lists([]int{'a', 0x302, 0x323, 0x1100, 0x1161}, 3) {
		for _, r := range []int{'a', 0x301, 0x323, 0x334, 0x1161, 0xFB01} {
			spare := slices.Concat(l, sample.Row(40))
			in := norm.State{L: spare[:len(l)]}
			left, told := norm.Feed(in, r)
			end := norm.End(in)
			for _, answer := range [][]int{left.L, told, end} {
				clear(answer[:cap(answer)])
			}
			if !slices.Equal(spare, slices.Concat(l, sample.Row(40))) {
				t.Fatalf("Feed and End of %#x, and who changed their answers, made of it, and of what stands behind it, %#x", l, spare)
			}
			checkState(t, in.L, r)
		}
		in := slices.Clone(l)
		first := norm.All(in)
		clear(first[:cap(first)])
		if !slices.Equal(in, l) {
			t.Fatalf("All(%#x), and who changed its answer, made of it %#x", l, in)
		}
		checkAll(t, l)
	}
}

// What is told of one State is the same whatever was made of it in between.
func TestStatesApart(t *testing.T) {
	s, _ := norm.Feed(norm.State{}, 0xE2)
	for _, r := range []int{0x323, 'b', 0x334, 0x301, 0x345, 0xFB01} {
		left, _ := norm.Feed(s, r)
		norm.Feed(left, 0x323)
		norm.Feed(left, 'c')
		if !slices.Equal(s.L, []int{'a', 0x302}) {
			t.Fatalf("once %#x was fed behind it, 61 302 is %#x", r, s.L)
		}
	}
}

// Nothing is kept: the calls of several that go at once are as those of one, and the wrong ones leave nothing behind.
func TestCallsAtOnce(t *testing.T) {
	given := norm.State{L: []int{'a', 0x302}}
	var all sync.WaitGroup
	for range 8 {
		all.Go(func() {
			for _, r := range bad {
				norm.All([]int{r, 0x345, 0x301, r})
				norm.Feed(norm.State{L: []int{'e', r, 0x301}}, r)
				s, told := norm.Feed(given, 0x323)
				if l := norm.End(s); !slices.Equal(l, []int{0x1EAD}) || len(told) > 0 || !slices.Equal(norm.All([]int{0xE2, 0x323}), l) {
					t.Errorf("behind %#x, 0061 0302 and 0323 are %#x, and %#x is told", r, l, told)
					return
				}
			}
		})
	}
	all.Wait()
}
