package sample_test

import (
	"math"
	"slices"
	"testing"

	"pentrough/api"
	"pentrough/canon"
	"pentrough/prop"
	"pentrough/sample"
)

func TestLists(t *testing.T) {
	all := slices.Collect(sample.Lists([]int{7, 8}, 2))
	want := [][]int{nil, {7}, {7, 7}, {7, 8}, {8}, {8, 7}, {8, 8}}
	if !slices.EqualFunc(all, want, slices.Equal) {
		t.Errorf("all lists of no more than two of 7 and 8 are %v; want %v", all, want)
	}
	for l := range sample.Lists([]int{7, 8}, 2) {
		if len(l) == 2 {
			break
		}
	}
	for _, n := range []int{0, -1} {
		if all := slices.Collect(sample.Lists([]int{7}, n)); len(all) != 1 || len(all[0]) > 0 {
			t.Errorf("of no more than %d there are %v", n, all)
		}
	}
}

func TestListsOfBytes(t *testing.T) {
	all := slices.Collect(sample.Lists([]byte("ab"), 2))
	want := [][]byte{nil, []byte("a"), []byte("aa"), []byte("ab"), []byte("b"), []byte("ba"), []byte("bb")}
	if !slices.EqualFunc(all, want, slices.Equal) {
		t.Errorf("all lists of no more than two of a and b are %q; want %q", all, want)
	}
}

func TestBytes(t *testing.T) {
	all := sample.Bytes()
	if len(all) != 256 {
		t.Errorf("there are %d bytes", len(all))
	}
	for k, c := range all {
		if int(c) != k {
			t.Errorf("byte %d is %d", k, c)
		}
	}
}

func TestHard(t *testing.T) {
	all, rows := 0, map[int]bool{}
	for l := range sample.Hard() {
		all++
		rows[canon.Marks(l)] = true
	}
	for n := range 130 {
		if !rows[n] {
			t.Errorf("no list has a row of %d marks", n)
		}
	}
	for _, l := range [][]int{
		{0xE2, 0x302, 0x323, 0x301, 0xE2}, slices.Repeat([]int{0x301}, 31), append(slices.Repeat([]int{0x301}, 30), 'e', api.Joiner), append(slices.Repeat([]int{'o', 0x301}, 1), slices.Repeat([]int{0x301}, 30)...),
	} {
		if !slices.ContainsFunc(slices.Collect(sample.Hard()), func(other []int) bool { return slices.Equal(l, other) }) {
			t.Errorf("%#x is no one of the lists", l)
		}
	}
	for end := 1; end < all; end += 97 {
		n := 0
		for range sample.Hard() {
			if n++; n == end {
				break
			}
		}
	}
}

func TestNumbers(t *testing.T) {
	all := map[int]bool{}
	for r := range sample.Numbers() {
		all[r] = true
	}
	for r := -1; r <= 0x110000; r++ {
		if !all[r] {
			t.Fatalf("%#x is no one of the numbers", r)
		}
	}
	for _, r := range append(sample.Bad(), 1<<32+0x309A, math.MinInt+0x345, 1<<16+0x301) {
		if !all[r] {
			t.Errorf("%#x is no one of the numbers", r)
		}
	}
	for _, last := range []int{0x301, 1<<32 + 0x301} {
		for r := range sample.Numbers() {
			if r == last {
				break
			}
		}
	}
}

func TestBad(t *testing.T) {
	cut := 0
	for _, r := range sample.Bad() {
		if 0 <= r && r <= 0x10FFFF {
			t.Errorf("%#x may be a value", r)
		}
		if prop.Mark(int(uint16(r))) {
			cut++
		}
	}
	if first := sample.Bad(); cut < 5 || len(first) < 15 {
		t.Errorf("%d of the numbers are marks once they are cut down: %#x", cut, first)
	}
}

func TestMarks(t *testing.T) {
	all := sample.Marks()
	if len(all) < 100 || !slices.IsSorted(all) || slices.ContainsFunc(all, func(r int) bool { return !prop.Mark(r) }) {
		t.Errorf("the marks are %#x", all)
	}
	for r := 0x10000; r <= 0x10FFFF; r++ {
		if prop.Mark(r) {
			t.Fatalf("%#x is a mark that stands beyond those that are looked at", r)
		}
	}
}

func TestRow(t *testing.T) {
	if l := sample.Row(3); !slices.Equal(l, []int{0x301, 0x301, 0x301}) {
		t.Errorf("3 marks alike: %#x", l)
	}
	for _, n := range []int{0, -1} {
		if l := sample.Row(n); len(l) > 0 {
			t.Errorf("of %d marks: %#x", n, l)
		}
	}
}

func TestStrewn(t *testing.T) {
	all, classes := sample.Strewn(200), map[int]bool{}
	for _, r := range all {
		classes[prop.Ccc(r)] = true
	}
	if len(all) != 200 || classes[0] || len(classes) < 10 {
		t.Errorf("%d marks of %d classes: %#x", len(all), len(classes), all)
	}
	if l := sample.Strewn(-1); len(l) > 0 {
		t.Errorf("of -1 marks: %#x", l)
	}
}
