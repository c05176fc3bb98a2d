// Package sample holds the lists of values that the tests of several layers try; no layer calls it.
package sample

import (
	"iter"
	"slices"

	"pentrough/prop"
)

// Lists ranges over all lists of no more than n of some values.
func Lists(values []int, n int) iter.Seq[[]int] {
	return func(yield func([]int) bool) { longer(nil, values, n, yield) }
}

// longer tells a list, and all that begin with it; it is false once no more are asked for.
func longer(l, values []int, n int, yield func([]int) bool) bool {
	if !yield(l) {
		return false
	}
	if len(l) >= n {
		return true
	}
	for _, r := range values {
		if !longer(append(slices.Clip(l), r), values, n, yield) {
			return false
		}
	}
	return true
}

// Marks tells all marks, by their numbers.
func Marks() []int {
	var l []int
	for r := range 0x10000 {
		if prop.Mark(r) {
			l = append(l, r)
		}
	}
	return l
}

// Strewn tells n marks, so that each class comes again and again, and no two runs of them are alike.
func Strewn(n int) []int {
	all := Marks()
	l := make([]int, max(n, 0))
	for k := range l {
		l[k] = all[(k*k+7*k)%len(all)]
	}
	return l
}
