package sample_test

import (
	"slices"
	"testing"

	"pentrough/prop"
	"pentrough/sample"
)

func TestLists(t *testing.T) {
	all := slices.Collect(sample.Lists([]int{7, 8}, 2))
	want := [][]int{nil, {7}, {7, 7}, {7, 8}, {8}, {8, 7}, {8, 8}}
	if !slices.EqualFunc(all, want, slices.Equal) {
		t.Errorf("all lists of no more than two of 7 and 8 are %v; want %v", all, want)
	}
	for l := range sample.Lists([]int{7, 8}, 2) {
		if len(l) == 2 {
			break
		}
	}
	for _, n := range []int{0, -1} {
		if all := slices.Collect(sample.Lists([]int{7}, n)); len(all) != 1 || len(all[0]) > 0 {
			t.Errorf("of no more than %d there are %v", n, all)
		}
	}
}

func TestMarks(t *testing.T) {
	all := sample.Marks()
	if len(all) < 100 || !slices.IsSorted(all) || slices.ContainsFunc(all, func(r int) bool { return !prop.Mark(r) }) {
		t.Errorf("the marks are %#x", all)
	}
	for r := 0x10000; r <= 0x10FFFF; r++ {
		if prop.Mark(r) {
			t.Fatalf("%#x is a mark that stands beyond those that are looked at", r)
		}
	}
}

func TestStrewn(t *testing.T) {
	all, classes := sample.Strewn(200), map[int]bool{}
	for _, r := range all {
		classes[prop.Ccc(r)] = true
	}
	if len(all) != 200 || classes[0] || len(classes) < 10 {
		t.Errorf("%d marks of %d classes: %#x", len(all), len(classes), all)
	}
	if l := sample.Strewn(-1); len(l) > 0 {
		t.Errorf("of -1 marks: %#x", l)
	}
}
