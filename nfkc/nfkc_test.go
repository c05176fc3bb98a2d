package nfkc_test

import (
	"fmt"
	"math"
	"slices"
	"sync"
	"testing"

	"pentrough/api"
	"pentrough/canon"
	"pentrough/decomp"
	"pentrough/nfkc"
	"pentrough/pair"
	"pentrough/prop"
	"pentrough/sample"
)

// some: marks of many a class, what is put together with them or with one another, what is made of one other and of several, wide and narrow, the Joiner, what is neither, and what is no value.
var some = []int{
	'a', 'A', 0xE2, 0x1EA1, 0x1EAD, 0xC5, 0x212B, 0xFB01, 0xFF21, 0xA8, 0x958, 0x301, 0x302, 0x30A, 0x323, 0x334, 0x345, api.Joiner,
	0x1100, 0x1161, 0x11A8, 0xAC00, 0xAC01, 0, -1, 1<<32 + 0x301,
}

// bad: numbers that are no values.
var bad = sample.Bad()

// What a value is made of is asked of decomp, marks' classes of prop, and what is in order and put together of canon; what is made of these is told anew here, as near to the document's words as may be, and as slowly.

func wantMade(l []int) []int {
	var all []int
	for _, r := range l {
		all = append(all, decomp.Full(r)...)
	}
	return all
}

// wantSafe looks, for each mark, back over all that was told.
func wantSafe(l []int) []int {
	var told []int
	for _, r := range l {
		if prop.Mark(r) && behind(told) == 30 {
			told = append(told, 0x34F)
		}
		told = append(told, r)
	}
	return told
}

// behind tells how many marks stand at the end of a list.
func behind(l []int) int {
	n := 0
	for n < len(l) && prop.Mark(l[len(l)-1-n]) {
		n++
	}
	return n
}

func wantNfkd(l []int) []int { return canon.Order(wantSafe(wantMade(l))) }

func wantNfkc(l []int) []int { return canon.Compose(wantNfkd(l)) }

// A one is a call that tells a list, and what the document's words make of it.
type one struct {
	name       string
	call, want func([]int) []int
}

func ones() []one {
	return []one{
		{"Made", nfkc.Made, wantMade}, {"Safe", nfkc.Safe, wantSafe}, {"Nfkd", nfkc.Nfkd, wantNfkd}, {"Nfkc", nfkc.Nfkc, wantNfkc},
	}
}

// check holds all calls, and what follows from their promises, at one list.
func check(t *testing.T, l []int) {
	t.Helper()
	for _, x := range ones() {
		if got, want := x.call(l), x.want(l); !slices.Equal(got, want) {
			t.Fatalf("%s(%#x) = %#x; want %#x", x.name, l, got, want)
		}
	}
	if is, want := nfkc.Is(l), wantNfkc(l); is != slices.Equal(l, want) {
		t.Fatalf("Is(%#x) = %v; in that form it is %#x", l, is, want)
	}
	checkWhatFollows(t, l)
}

// P8.3
func checkWhatFollows(t *testing.T, l []int) {
	t.Helper()
	form := nfkc.Nfkc(l)
	if again := nfkc.Nfkc(form); !nfkc.Is(form) || !slices.Equal(again, form) {
		t.Fatalf("Nfkc(%#x) = %#x; Is of that is %v, and its form is %#x", l, form, nfkc.Is(form), again)
	}
	parts, row := nfkc.Made(l), nfkc.Nfkd(l)
	for _, same := range [][]int{parts, row, nfkc.Safe(parts)} {
		if other := nfkc.Nfkc(same); !slices.Equal(other, form) {
			t.Fatalf("the form of %#x is %#x; that of %#x is %#x", l, form, same, other)
		}
	}
	for _, told := range [][]int{nfkc.Safe(l), row, form} {
		if n := canon.Marks(told); n > 30 {
			t.Fatalf("of %#x came %#x, with %d marks in a row", l, told, n)
		}
	}
	if canon.Marks(parts) <= 30 {
		checkOtherOrders(t, parts)
	}
}

// checkOtherOrders changes the places of each two marks of unlike classes that stand side by side: what stands in any other order comes of many such changes.
func checkOtherOrders(t *testing.T, parts []int) {
	t.Helper()
	form := nfkc.Nfkc(parts)
	for k := range max(len(parts)-1, 0) {
		a, b := parts[k], parts[k+1]
		if !prop.Mark(a) || !prop.Mark(b) || prop.Ccc(a) == prop.Ccc(b) {
			continue
		}
		l := slices.Clone(parts)
		l[k], l[k+1] = b, a
		if other := nfkc.Nfkc(l); !slices.Equal(other, form) {
			t.Fatalf("the form of %#x is %#x; that of %#x is %#x", parts, form, l, other)
		}
	}
}

// P8.1, P8.2

func TestByHand(t *testing.T) {
	for _, x := range []struct{ l, made, safe, nfkd, nfkc []int }{
		{},
		{l: []int{}},
		{[]int{'a'}, []int{'a'}, []int{'a'}, []int{'a'}, []int{'a'}},
		{[]int{0x301}, []int{0x301}, []int{0x301}, []int{0x301}, []int{0x301}},
		{[]int{0xE9}, []int{'e', 0x301}, []int{0xE9}, []int{'e', 0x301}, []int{0xE9}},
		{[]int{'e', 0x301}, []int{'e', 0x301}, []int{'e', 0x301}, []int{'e', 0x301}, []int{0xE9}},
		{[]int{0xFB01, 'x'}, []int{'f', 'i', 'x'}, []int{0xFB01, 'x'}, []int{'f', 'i', 'x'}, []int{'f', 'i', 'x'}},
		{[]int{0x2177}, []int{'v', 'i', 'i', 'i'}, []int{0x2177}, []int{'v', 'i', 'i', 'i'}, []int{'v', 'i', 'i', 'i'}},
		{[]int{0xFF21, 0x30A}, []int{'A', 0x30A}, []int{0xFF21, 0x30A}, []int{'A', 0x30A}, []int{0xC5}},
		{[]int{'a', 0x302, 0x323}, []int{'a', 0x302, 0x323}, []int{'a', 0x302, 0x323}, []int{'a', 0x323, 0x302}, []int{0x1EAD}},
		{[]int{0xE2, 0x323}, []int{'a', 0x302, 0x323}, []int{0xE2, 0x323}, []int{'a', 0x323, 0x302}, []int{0x1EAD}},
		{[]int{0xE1, 0x334}, []int{'a', 0x301, 0x334}, []int{0xE1, 0x334}, []int{'a', 0x334, 0x301}, []int{0xE1, 0x334}},
		{[]int{0x958}, []int{0x915, 0x93C}, []int{0x958}, []int{0x915, 0x93C}, []int{0x915, 0x93C}},
		{[]int{0xB4, 0x323}, []int{' ', 0x301, 0x323}, []int{0xB4, 0x323}, []int{' ', 0x323, 0x301}, []int{' ', 0x323, 0x301}},
		{[]int{0xAC00, 0x11A8}, []int{0x1100, 0x1161, 0x11A8}, []int{0xAC00, 0x11A8}, []int{0x1100, 0x1161, 0x11A8}, []int{0xAC01}},
		{[]int{0xAC01, 0x11A8}, []int{0x1100, 0x1161, 0x11A8, 0x11A8}, []int{0xAC01, 0x11A8}, []int{0x1100, 0x1161, 0x11A8, 0x11A8}, []int{0xAC01, 0x11A8}},
		{[]int{'a', 0x34F, 0x301}, []int{'a', 0x34F, 0x301}, []int{'a', 0x34F, 0x301}, []int{'a', 0x34F, 0x301}, []int{'a', 0x34F, 0x301}},
		{[]int{-1, 0x345, 0x301, math.MaxInt}, []int{-1, 0x345, 0x301, math.MaxInt}, []int{-1, 0x345, 0x301, math.MaxInt}, []int{-1, 0x301, 0x345, math.MaxInt}, []int{-1, 0x301, 0x345, math.MaxInt}},
	} {
		for k, want := range [][]int{x.made, x.safe, x.nfkd, x.nfkc} {
			if got := ones()[k].call(x.l); !slices.Equal(got, want) {
				t.Errorf("%s(%#x) = %#x; want %#x", ones()[k].name, x.l, got, want)
			}
		}
		if is := nfkc.Is(x.l); is != slices.Equal(x.l, x.nfkc) {
			t.Errorf("Is(%#x) = %v", x.l, is)
		}
	}
}

// The document's examples.
func TestExamples(t *testing.T) {
	if l := nfkc.Nfkc([]int{0xFB01}); !slices.Equal(l, []int{0x66, 0x69}) {
		t.Errorf("of FB01 came %#x", l)
	}
	if l := nfkc.Nfkc([]int{0x212B}); !slices.Equal(l, []int{0xC5}) {
		t.Errorf("of 212B came %#x", l)
	}
}

// The 31st mark of a row has the Joiner ahead of it, and is the first one then: so has each 30th behind it.
func TestRowsByHand(t *testing.T) {
	j := []int{0x34F}
	for _, x := range []struct{ l, safe []int }{
		{sample.Row(29), sample.Row(29)},
		{sample.Row(30), sample.Row(30)},
		{sample.Row(31), slices.Concat(sample.Row(30), j, sample.Row(1))},
		{sample.Row(60), slices.Concat(sample.Row(30), j, sample.Row(30))},
		{sample.Row(61), slices.Concat(sample.Row(30), j, sample.Row(30), j, sample.Row(1))},
		{sample.Row(91), slices.Concat(sample.Row(30), j, sample.Row(30), j, sample.Row(30), j, sample.Row(1))},
		{slices.Concat([]int{'a'}, sample.Row(31)), slices.Concat([]int{'a'}, sample.Row(30), j, sample.Row(1))},
		{slices.Concat(sample.Row(30), []int{'a'}, sample.Row(30)), slices.Concat(sample.Row(30), []int{'a'}, sample.Row(30))},
		{slices.Concat(sample.Row(29), []int{'a'}, sample.Row(31), []int{'b'}), slices.Concat(sample.Row(29), []int{'a'}, sample.Row(30), j, sample.Row(1), []int{'b'})},
		{slices.Concat(sample.Row(30), j, sample.Row(30)), slices.Concat(sample.Row(30), j, sample.Row(30))},
		{slices.Concat(sample.Row(30), j, j, sample.Row(31)), slices.Concat(sample.Row(30), j, j, sample.Row(30), j, sample.Row(1))},
		{slices.Concat(sample.Row(30), []int{0xE9}, sample.Row(30)), slices.Concat(sample.Row(30), []int{0xE9}, sample.Row(30))},
		{slices.Concat(sample.Row(30), []int{1<<32 + 0x301}, sample.Row(30)), slices.Concat(sample.Row(30), []int{1<<32 + 0x301}, sample.Row(30))},
	} {
		if l := nfkc.Safe(x.l); !slices.Equal(l, x.safe) {
			t.Errorf("Safe(%#x) = %#x; want %#x", x.l, l, x.safe)
		}
		check(t, x.l)
	}
}

// Marks are counted in what values are made of, as they stood, and not once they are in order or put together.
func TestWhatIsCounted(t *testing.T) {
	for _, x := range []struct{ l, nfkc []int }{
		{slices.Concat([]int{0xE9}, sample.Row(29)), slices.Concat([]int{0xE9}, sample.Row(29))},
		{slices.Concat([]int{0xE9}, sample.Row(30)), slices.Concat([]int{0xE9}, sample.Row(29), []int{0x34F, 0x301})},
		{slices.Concat([]int{'e'}, sample.Row(31)), slices.Concat([]int{0xE9}, sample.Row(29), []int{0x34F, 0x301})},
		{slices.Concat([]int{0x1EAD}, sample.Row(29)), slices.Concat([]int{0x1EAD}, sample.Row(28), []int{0x34F, 0x301})},
		{slices.Concat([]int{'a'}, sample.Row(30), []int{0x323}), slices.Concat([]int{0xE1}, sample.Row(29), []int{0x34F, 0x323})},
		{slices.Concat([]int{'a'}, sample.Row(29), []int{0x323}), slices.Concat([]int{0x1EA1}, sample.Row(29))},
		{slices.Concat([]int{'a', 0x323}, sample.Row(30)), slices.Concat([]int{0x1EA1}, sample.Row(29), []int{0x34F, 0x301})},
		{slices.Concat(sample.Row(30), []int{'e', 0x301}), slices.Concat(sample.Row(30), []int{0xE9})},
	} {
		if l := nfkc.Nfkc(x.l); !slices.Equal(l, x.nfkc) {
			t.Errorf("Nfkc(%#x) = %#x; want %#x", x.l, l, x.nfkc)
		}
		check(t, x.l)
	}
}

func TestAllShortLists(t *testing.T) {
	for l := range sample.Lists(some, 3) {
		check(t, l)
	}
}

func TestHardLists(t *testing.T) {
	for l := range sample.Hard() {
		check(t, l)
	}
}

// Every value, and many numbers on both sides, alone and behind a row of 30 marks: the Joiner stands ahead of it if it is a mark.
func TestEveryValue(t *testing.T) {
	full := sample.Row(30)
	for r := range sample.Numbers() {
		safe := append(full[:30:30], r)
		if prop.Mark(r) {
			safe = append(full[:30:30], 0x34F, r)
		}
		if l := nfkc.Safe(append(full[:30:30], r)); !slices.Equal(l, safe) {
			t.Fatalf("Safe of 30 marks and %#x: %#x", r, l)
		}
		parts := decomp.Full(r)
		form := canon.Compose(canon.Order(parts))
		made, once := nfkc.Made([]int{r}), nfkc.Nfkc([]int{r})
		if !slices.Equal(made, parts) || !slices.Equal(once, form) || nfkc.Is([]int{r}) != slices.Equal(form, []int{r}) || !nfkc.Is(once) {
			t.Fatalf("Made(%#x) = %#x, Nfkc %#x; want %#x and %#x; Is of it and of that: %v, %v", r, made, once, parts, form, nfkc.Is([]int{r}), nfkc.Is(once))
		}
	}
}

// Every value that is two: it and they are alike, with marks behind them too.
func TestEveryPair(t *testing.T) {
	for whole := range 0x11000 {
		a, b, is := pair.Back(whole)
		if !is {
			continue
		}
		if l := nfkc.Nfkc([]int{a, b}); !slices.Equal(l, []int{whole}) || !nfkc.Is([]int{whole}) || nfkc.Is([]int{a, b}) {
			t.Fatalf("%#x is not the form of %#x, %#x, but %#x", whole, a, b, l)
		}
		if whole >= 0xAC00 && whole%64 > 0 {
			continue
		}
		for _, l := range [][]int{{a, b, b}, {whole, 0x323, 0x301}, {a, 0x334, b}, {'x', a, b, 0xFB01}} {
			check(t, l)
		}
	}
}

func TestNumbersThatAreNoValues(t *testing.T) {
	for l := range sample.Lists(append([]int{0xE9, 0x301, 0x323}, bad...), 3) {
		check(t, l)
	}
}

// P8.3

// Whichever values have the same parts, one behind the other, have the same form.
func TestSamePartsSameForm(t *testing.T) {
	forms := map[string][]int{}
	for l := range sample.Lists([]int{'a', 'A', 0xE2, 0xC5, 0x212B, 0x1EA5, 0x1EAD, 0xFF21, 0x302, 0x301, 0x323, 0x30A}, 4) {
		parts, form := fmt.Sprint(nfkc.Made(l)), nfkc.Nfkc(l)
		if other, told := forms[parts]; told && !slices.Equal(other, form) {
			t.Fatalf("%#x, made of %s, has the form %#x; what has the same parts has %#x", l, parts, form, other)
		}
		forms[parts] = form
	}
}

// Marks of unlike classes, no more than 30, in any order.
func TestMarksInAnyOrder(t *testing.T) {
	var each []int // one of each class
	for _, r := range sample.Marks() {
		if !slices.ContainsFunc(each, func(other int) bool { return prop.Ccc(other) == prop.Ccc(r) }) {
			each = append(each, r)
		}
	}
	for _, head := range []int{'a', 'o', 'u', 0x304B, 0x915} {
		form := nfkc.Nfkc(append([]int{head}, each...))
		for step := 1; step < 200; step++ {
			l := []int{head}
			rest := slices.Clone(each)
			for k := 0; len(rest) > 0; k += step {
				n := k % len(rest)
				l = append(l, rest[n])
				rest = slices.Delete(rest, n, n+1)
			}
			if other := nfkc.Nfkc(l); !slices.Equal(other, form) {
				t.Fatalf("the form of %#x is %#x; in another order it is %#x", l, other, form)
			}
		}
	}
	if n := len(each); n < 15 || 30 < n {
		t.Errorf("there are %d classes", n)
	}
}

// Of more than 30 marks each stays on its side of the Joiner.
func TestOrderBeyondBound(t *testing.T) {
	first := slices.Concat([]int{'q', 0x323}, sample.Row(30))
	last := slices.Concat([]int{'q'}, sample.Row(30), []int{0x323})
	if slices.Equal(nfkc.Nfkc(first), nfkc.Nfkc(last)) {
		t.Error("31 marks in another order have the same form")
	}
}

// A great list ends as soon as a small one, for its length.
func TestGreatLists(t *testing.T) {
	const n = 1 << 18
	safe := nfkc.Safe(sample.Row(n))
	if len(safe) != n+(n-1)/30 || canon.Marks(safe) != 30 || !nfkc.Is(safe) || !slices.Equal(nfkc.Nfkc(sample.Row(n)), safe) {
		t.Errorf("of %d marks came %d values, with %d marks in a row", n, len(safe), canon.Marks(safe))
	}
	if l := nfkc.Nfkc(slices.Repeat([]int{0xE2, 0x323, 0xFB01}, n)); !slices.Equal(l, slices.Repeat([]int{0x1EAD, 'f', 'i'}, n)) {
		t.Error("many rows are not put together")
	}
}

// Nothing is kept: who changes an answer changes no other one, made before or after it, nor what was handed in; and what stands behind a list is not read, nor changed.
func TestAnswersApart(t *testing.T) {
	for l := range sample.Lists([]int{'a', 0xE2, 0x301, 0x323}, 4) {
		for _, x := range ones() {
			long := slices.Concat(l, sample.Row(40))
			in, want := long[:len(l)], x.want(l)
			first, second := x.call(in), x.call(in)
			clear(first[:cap(first)])
			third := x.call(in)
			if !slices.Equal(long, slices.Concat(l, sample.Row(40))) || !slices.Equal(second, want) || !slices.Equal(third, want) {
				t.Fatalf("once an answer of %s(%#x) was changed, others are %#x and %#x, and it was handed in %#x", x.name, l, second, third, long)
			}
		}
	}
}

// Nothing is kept: the calls of several that go at once are as those of one, and the wrong ones leave nothing behind.
func TestCallsAtOnce(t *testing.T) {
	l := slices.Concat([]int{0xE2, 0x323}, sample.Row(30), []int{0xFB01})
	want := wantNfkc(l)
	var all sync.WaitGroup
	for range 8 {
		all.Go(func() {
			for _, r := range bad {
				nfkc.Nfkc(append(sample.Row(30), r, 0x345, r))
				if got := nfkc.Nfkc(l); !slices.Equal(got, want) || nfkc.Is(l) || !nfkc.Is(got) {
					t.Errorf("behind %#x, of %#x came %#x; want %#x", r, l, got, want)
					return
				}
			}
		})
	}
	all.Wait()
}
