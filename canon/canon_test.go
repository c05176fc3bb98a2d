package canon_test

import (
	"math"
	"slices"
	"sync"
	"testing"

	"pentrough/canon"
	"pentrough/pair"
	"pentrough/prop"
	"pentrough/sample"
)

// some: marks of many a class (of 334, 31B, 323, 301 and 302, 345, 3099 they are 1, 216, 220, 230, 240 and 8), values that are put together with one of these, or with one another, what is neither, and what is no value.
var some = []int{
	'a', 'o', 0xE2, 0x1EA1, 0x301, 0x302, 0x323, 0x31B, 0x334, 0x345, 0x34F, 0x304B, 0x3099, 0x1100, 0x1161, 0x11A8, 0xAC00, 0, -1, 1<<32 + 0x301,
}

// bad: numbers that are no values.
var bad = sample.Bad()

// The marks' classes are asked of prop, and what two values are together of pair; what is made of these is told anew here, as near to the document's words as may be, and as slowly.

// wantOrder takes each row of marks, and of it those of each class, from the lowest to the highest.
func wantOrder(l []int) []int {
	var all, row []int
	for _, r := range l {
		if prop.Mark(r) {
			row = append(row, r)
			continue
		}
		all = append(append(all, byClasses(row)...), r)
		row = nil
	}
	return append(all, byClasses(row)...)
}

func byClasses(row []int) []int {
	var l []int
	for class := 1; class < 256 && len(l) < len(row); class++ {
		for _, r := range row {
			if prop.Ccc(r) == class {
				l = append(l, r)
			}
		}
	}
	return l
}

// wantCompose looks, for each value, back over all that was told.
func wantCompose(l []int) []int {
	var told []int
	for _, r := range l {
		if k, whole, is := withHead(told, r); is {
			told[k] = whole
		} else {
			told = append(told, r)
		}
	}
	return told
}

// withHead tells where the head of r stands in what was told, what they are together, and whether they are.
func withHead(told []int, r int) (int, int, bool) {
	for k, head := range slices.Backward(told) {
		if prop.Mark(head) {
			continue
		}
		if k < len(told)-1 {
			last := told[len(told)-1]
			if !prop.Mark(last) || prop.Ccc(last) >= prop.Ccc(r) {
				return 0, 0, false
			}
		}
		whole, is := pair.Join(head, r)
		return k, whole, is
	}
	return 0, 0, false
}

// wantMarks tries each piece of l that is marks alone.
func wantMarks(l []int) int {
	most := 0
	for from := range l {
		to := from
		for to < len(l) && prop.Mark(l[to]) {
			to++
		}
		most = max(most, to-from)
	}
	return most
}

// check holds all calls, and what follows from their promises, at one list.
func check(t *testing.T, l []int) {
	t.Helper()
	ordered, order := canon.Order(l), wantOrder(l)
	if !slices.Equal(ordered, order) {
		t.Fatalf("Order(%#x) = %#x; want %#x", l, ordered, order)
	}
	if is := canon.Sorted(l); is != slices.Equal(l, order) {
		t.Fatalf("Sorted(%#x) = %v; in order it is %#x", l, is, order)
	}
	if n := canon.Marks(l); n != wantMarks(l) {
		t.Fatalf("Marks(%#x) = %d; want %d", l, n, wantMarks(l))
	}
	if composed := canon.Compose(l); !slices.Equal(composed, wantCompose(l)) {
		t.Fatalf("Compose(%#x) = %#x; want %#x", l, composed, wantCompose(l))
	}
	checkWhatFollows(t, l)
}

// P7.3
func checkWhatFollows(t *testing.T, l []int) {
	t.Helper()
	ordered := canon.Order(l)
	if again := canon.Order(ordered); !canon.Sorted(ordered) || !slices.Equal(again, ordered) {
		t.Fatalf("Order(%#x) = %#x, which is Sorted: %v, and put in order is %#x", l, ordered, canon.Sorted(ordered), again)
	}
	if composed := canon.Compose(l); len(composed) > len(l) {
		t.Fatalf("Compose(%#x) = %#x, which is longer", l, composed)
	}
	once := canon.Compose(ordered)
	if twice := canon.Compose(once); !slices.Equal(twice, once) {
		t.Fatalf("%#x is put together to %#x, and this to %#x", ordered, once, twice)
	}
}

// P7.1, P7.2, P7.3

func TestByHand(t *testing.T) {
	for _, x := range []struct {
		l, order, compose []int
		marks             int
	}{
		{nil, nil, nil, 0},
		{[]int{}, nil, nil, 0},
		{[]int{'a'}, []int{'a'}, []int{'a'}, 0},
		{[]int{0x301}, []int{0x301}, []int{0x301}, 1},
		{[]int{'a', 0x302, 0x323}, []int{'a', 0x323, 0x302}, []int{0xE2, 0x323}, 2},
		{[]int{'a', 0x323, 0x302}, []int{'a', 0x323, 0x302}, []int{0x1EAD}, 2},
		{[]int{'a', 0x323, 0x345, 0x302}, []int{'a', 0x323, 0x302, 0x345}, []int{0x1EA1, 0x345, 0x302}, 3},
		{[]int{'a', 0x302, 0x301}, []int{'a', 0x302, 0x301}, []int{0x1EA5}, 2},
		{[]int{'a', 0x301, 0x302}, []int{'a', 0x301, 0x302}, []int{0xE1, 0x302}, 2},
		{[]int{'a', 0x301, 0x301}, []int{'a', 0x301, 0x301}, []int{0xE1, 0x301}, 2},
		{[]int{'a', 0x30D, 0x301}, []int{'a', 0x30D, 0x301}, []int{'a', 0x30D, 0x301}, 2},
		{[]int{'a', 0x345, 0x301}, []int{'a', 0x301, 0x345}, []int{'a', 0x345, 0x301}, 2},
		{[]int{'a', 0x334, 0x301}, []int{'a', 0x334, 0x301}, []int{0xE1, 0x334}, 2},
		{[]int{'a', 0x334, 0x323, 0x302}, []int{'a', 0x334, 0x323, 0x302}, []int{0x1EAD, 0x334}, 3},
		{[]int{0x301, 'a'}, []int{0x301, 'a'}, []int{0x301, 'a'}, 1},
		{[]int{0x301, 0x323, 'a', 0x301}, []int{0x323, 0x301, 'a', 0x301}, []int{0x301, 0x323, 0xE1}, 2},
		{[]int{'e', 'e', 0x301}, []int{'e', 'e', 0x301}, []int{'e', 0xE9}, 1},
		{[]int{'e', 'q', 0x301, 'e'}, []int{'e', 'q', 0x301, 'e'}, []int{'e', 'q', 0x301, 'e'}, 1},
		{[]int{'q', 0x302, 0x301, 0x323, 'a', 0x31B, 0x301}, []int{'q', 0x323, 0x302, 0x301, 'a', 0x31B, 0x301}, []int{'q', 0x302, 0x301, 0x323, 0xE1, 0x31B}, 3},
		{[]int{'a', 0x34F, 0x301}, []int{'a', 0x34F, 0x301}, []int{'a', 0x34F, 0x301}, 1},
		{[]int{'a', 0x301, 0x34F, 0x323, 0x302}, []int{'a', 0x301, 0x34F, 0x323, 0x302}, []int{0xE1, 0x34F, 0x323, 0x302}, 2},
		{[]int{'o', 0x323, 0x31B, 0x301}, []int{'o', 0x31B, 0x323, 0x301}, []int{0x1ECD, 0x31B, 0x301}, 3},
		{[]int{0x1A1, 0x323}, []int{0x1A1, 0x323}, []int{0x1EE3}, 1},
		{[]int{0x3B9, 0x308, 0x301}, []int{0x3B9, 0x308, 0x301}, []int{0x390}, 2},
		{[]int{0x304B, 0x3099, 0x3099}, []int{0x304B, 0x3099, 0x3099}, []int{0x304C, 0x3099}, 2},
		{[]int{0x1100, 0x1161, 0x11A8}, []int{0x1100, 0x1161, 0x11A8}, []int{0xAC01}, 0},
		{[]int{0x1112, 0x1175, 0x11C2, 0x1100, 0x1161}, []int{0x1112, 0x1175, 0x11C2, 0x1100, 0x1161}, []int{0xD7A3, 0xAC00}, 0},
		{[]int{0xAC00, 0x301, 0x11A8}, []int{0xAC00, 0x301, 0x11A8}, []int{0xAC00, 0x301, 0x11A8}, 1},
		{[]int{0x1100, 'a', 0x1161}, []int{0x1100, 'a', 0x1161}, []int{0x1100, 'a', 0x1161}, 0},
		{[]int{-1, 0x345, 0x301, math.MaxInt}, []int{-1, 0x301, 0x345, math.MaxInt}, []int{-1, 0x345, 0x301, math.MaxInt}, 2},
		{[]int{0x345, 1<<32 + 0x301, 0x301}, []int{0x345, 1<<32 + 0x301, 0x301}, []int{0x345, 1<<32 + 0x301, 0x301}, 1},
	} {
		if l := canon.Order(x.l); !slices.Equal(l, x.order) || canon.Sorted(x.l) != slices.Equal(x.l, x.order) {
			t.Errorf("Order(%#x) = %#x; want %#x; Sorted is %v", x.l, l, x.order, canon.Sorted(x.l))
		}
		if l := canon.Compose(x.l); !slices.Equal(l, x.compose) {
			t.Errorf("Compose(%#x) = %#x; want %#x", x.l, l, x.compose)
		}
		if n := canon.Marks(x.l); n != x.marks {
			t.Errorf("Marks(%#x) = %d; want %d", x.l, n, x.marks)
		}
	}
}

// The document's example: 1EAD comes only of what was put in order.
func TestExample(t *testing.T) {
	ordered := canon.Order([]int{0x61, 0x302, 0x323})
	if l := canon.Compose(ordered); !slices.Equal(ordered, []int{0x61, 0x323, 0x302}) || !slices.Equal(l, []int{0x1EAD}) {
		t.Errorf("in order %#x, together %#x", ordered, l)
	}
}

func TestAllShortLists(t *testing.T) {
	for l := range sample.Lists(some, 4) {
		check(t, l)
	}
}

func TestLongerListsOfFew(t *testing.T) {
	for l := range sample.Lists([]int{'a', 0x302, 0x301, 0x323, 0x345}, 6) {
		check(t, l)
	}
	for l := range sample.Lists([]int{'o', 0x31B, 0x323, 0x301}, 6) {
		check(t, l)
	}
	for l := range sample.Lists([]int{0x1100, 0x1161, 0x11A8, 0x301}, 6) {
		check(t, l)
	}
}

// P7.1

// Every value, and many numbers on both sides, between two marks, the one of the highest class and the one of the lowest: these change places if it is a mark.
func TestEveryValueBetweenMarks(t *testing.T) {
	for r := range sample.Numbers() {
		want, sorted, n := []int{0x345, r, 0x334}, true, 1
		if prop.Mark(r) {
			want, sorted, n = wantOrder(want), prop.Ccc(r) == 240, 3
		}
		l := []int{0x345, r, 0x334}
		if got := canon.Order(l); !slices.Equal(got, want) || canon.Sorted(l) != slices.Equal(l, want) || canon.Sorted(l[:2]) != sorted || canon.Marks(l) != n {
			t.Fatalf("Order(%#x) = %#x; want %#x; Sorted of it and of its first two: %v, %v; Marks: %d", l, got, want, canon.Sorted(l), canon.Sorted(l[:2]), canon.Marks(l))
		}
	}
}

func TestEveryTwoMarks(t *testing.T) {
	all := sample.Marks()
	for _, a := range all {
		for _, b := range all {
			want := []int{'x', a, b}
			if prop.Ccc(b) < prop.Ccc(a) {
				want = []int{'x', b, a}
			}
			l := []int{'x', a, b}
			if got := canon.Order(l); !slices.Equal(got, want) || canon.Sorted(l) != slices.Equal(l, want) {
				t.Fatalf("Order(%#x) = %#x; want %#x; Sorted is %v", l, got, want, canon.Sorted(l))
			}
		}
	}
}

// Of one class marks stay as they stood, in rows too that are too long to be put in order one by one.
func TestLongRows(t *testing.T) {
	for _, n := range []int{2, 11, 12, 13, 20, 21, 29, 30, 31, 32, 50, 51, 64, 100, 257, 1000, 3000} {
		l := sample.Strewn(n)
		check(t, l)
		slices.Reverse(l)
		check(t, l)
		check(t, append([]int{'a'}, l...))
		check(t, slices.Concat(l, []int{'a'}, l[:n/2], []int{'o', 'o'}, l[n/3:], []int{0x34F}))
	}
}

func TestMarksOfLongestRow(t *testing.T) {
	row := slices.Repeat([]int{0x301}, 40)
	for a := range 5 {
		for b := range 5 {
			for c := range 40 {
				l := slices.Concat(row[:a], []int{'a'}, row[:b], []int{0x34F}, row[:c])
				if n := canon.Marks(l); n != max(a, b, c) {
					t.Fatalf("of rows of %d, %d and %d marks the longest has %d", a, b, c, n)
				}
			}
		}
	}
}

// A great list ends as soon as a small one, for its length.
func TestGreatLists(t *testing.T) {
	l := sample.Strewn(1 << 16)
	ordered := canon.Order(l)
	if !slices.Equal(ordered, wantOrder(l)) || !canon.Sorted(ordered) || canon.Sorted(l) || canon.Marks(l) != len(l) {
		t.Error("a row of many marks is not put in order")
	}
	if composed := canon.Compose(l); !slices.Equal(composed, l) {
		t.Error("marks without a head are not told as they are")
	}
	many := slices.Repeat([]int{'a', 0x302, 0x323}, 1<<15)
	if l := canon.Compose(canon.Order(many)); !slices.Equal(l, slices.Repeat([]int{0x1EAD}, 1<<15)) {
		t.Error("many rows are not put together")
	}
}

// P7.2

// Every two values that are one: alone, behind others, with what may stand between them, and with what may not.
func TestEveryPair(t *testing.T) {
	for whole := range 0x11000 {
		a, b, is := pair.Back(whole)
		if !is {
			continue
		}
		if prop.Mark(whole) {
			t.Fatalf("%#x, of %#x and %#x, is a mark, and no head", whole, a, b)
		}
		for _, x := range []struct{ l, want []int }{
			{[]int{a, b}, []int{whole}},
			{[]int{'x', a, b, 'x'}, []int{'x', whole, 'x'}},
			{[]int{0x301, a, b}, []int{0x301, whole}},
			{[]int{a, -1, b}, []int{a, -1, b}},
			{[]int{a, 0x345, b}, []int{a, 0x345, b}},
			{[]int{b}, []int{b}},
		} {
			if l := canon.Compose(x.l); !slices.Equal(l, x.want) {
				t.Fatalf("Compose(%#x) = %#x; want %#x", x.l, l, x.want)
			}
		}
		check(t, []int{a, 0x334, b})
		check(t, []int{a, b, b})
		check(t, []int{a, b, 0x301, 0x302})
	}
}

// What stays behind a head that is another one by now is not put together with it later, in whichever order the marks came.
func TestMarksThatAreInPairs(t *testing.T) {
	heads, behind := map[int]bool{}, map[int]bool{0x334: true, 0x345: true}
	for whole := range 0xAC00 {
		if a, b, is := pair.Back(whole); is {
			heads[a], behind[b] = true, true
		}
	}
	for a := range heads {
		for b := range behind {
			for c := range behind {
				check(t, []int{a, b, c})
			}
		}
	}
}

func TestNumbersThatAreNoValues(t *testing.T) {
	for l := range sample.Lists(append([]int{'e', 0x301, 0x323}, bad...), 3) {
		check(t, l)
	}
}

// Nothing is kept: who changes an answer changes no other one, made before or after it, nor what was handed in.
func TestAnswersApart(t *testing.T) {
	calls := []func([]int) []int{canon.Order, canon.Compose}
	wants := []func([]int) []int{wantOrder, wantCompose}
	for l := range sample.Lists(some[4:9], 4) {
		for k, call := range calls {
			in, want := slices.Clone(l), wants[k](l)
			first, second := call(in), call(in)
			clear(first[:cap(first)])
			third := call(in)
			if !slices.Equal(in, l) || !slices.Equal(second, want) || !slices.Equal(third, want) {
				t.Fatalf("once an answer of call %d of %#x was changed, others are %#x and %#x, and it was handed in %#x", k, l, second, third, in)
			}
		}
	}
}

// Nothing is kept: the calls of several that go at once are as those of one, and the wrong ones leave nothing behind.
func TestCallsAtOnce(t *testing.T) {
	var all sync.WaitGroup
	for range 8 {
		all.Go(func() {
			for _, r := range bad {
				canon.Order([]int{r, 0x345, 0x301, r})
				canon.Compose([]int{'e', r, 0x301})
				ordered := canon.Order([]int{'a', 0x302, 0x323})
				if l := canon.Compose(ordered); !slices.Equal(l, []int{0x1EAD}) || !canon.Sorted(ordered) || canon.Marks(ordered) != 2 {
					t.Errorf("behind %#x, 0061 0302 0323 is in order %#x, and together %#x", r, ordered, l)
					return
				}
			}
		})
	}
	all.Wait()
}
