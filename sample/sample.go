// Package sample holds the values, the lists of them, the States, the machines and the blocks, that the tests of several layers try, and how machines and channels are held against each other; no layer calls it.
package sample

import (
	"iter"
	"math"
	"slices"

	"pentrough/api"
	"pentrough/prop"
)

// Lists ranges over all lists of no more than n of some values, or bytes.
func Lists[T any](values []T, n int) iter.Seq[[]T] {
	return func(yield func([]T) bool) { longer(nil, values, n, yield) }
}

// longer tells a list, and all that begin with it; it is false once no more are asked for.
func longer[T any](l, values []T, n int, yield func([]T) bool) bool {
	if !yield(l) {
		return false
	}
	if len(l) >= n {
		return true
	}
	for _, r := range values {
		if !longer(append(slices.Clip(l), r), values, n, yield) {
			return false
		}
	}
	return true
}

// Bytes tells every byte.
func Bytes() []byte {
	l := make([]byte, 256)
	for k := range l {
		l[k] = byte(k)
	}
	return l
}

// Hard ranges over lists of which much is put together in many an order, and those whose rows of marks are about as long as may be.
func Hard() iter.Seq[[]int] {
	return func(yield func([]int) bool) {
		for _, some := range []iter.Seq[[]int]{ofFew(), ofRows(), ofThreeRows(), behindRows()} {
			for l := range some {
				if !yield(l) {
					return
				}
			}
		}
	}
}

// ofFew ranges over the longer lists of few values: of Latin ones, of Hangul's, and of what is made of others.
func ofFew() iter.Seq[[]int] {
	return func(yield func([]int) bool) {
		for _, few := range [][]int{
			{0xE2, 0x302, 0x323, 0x301}, {'o', 0x1A1, 0x31B, 0x323, 0x301}, {0x1100, 0x1161, 0x11A8, 0xAC00, 0x301}, {0xFB01, 0x345, 0x301, api.Joiner},
		} {
			for l := range Lists(few, 5) {
				if !yield(l) {
					return
				}
			}
		}
	}
}

// ofRows ranges over rows of all lengths, of one mark and of many, between values of many a kind.
func ofRows() iter.Seq[[]int] {
	alike, strewn := Row(130), Strewn(130)
	return func(yield func([]int) bool) {
		for n := range len(strewn) {
			for _, head := range [][]int{nil, {'e'}, {0xE9}, {0x1EAD}, {api.Joiner}, {0xAC00}, {-1}} {
				if !yield(slices.Concat(head, alike[:n], head)) || !yield(slices.Concat(head, strewn[:n], head)) {
					return
				}
			}
		}
	}
}

// ofThreeRows ranges over lists of three rows whose lengths are at the bounds.
func ofThreeRows() iter.Seq[[]int] {
	row, strewn := Row(61), Strewn(122)
	return func(yield func([]int) bool) {
		for lengths := range Lists([]int{0, 1, 29, 30, 31, 60, 61}, 3) {
			if len(lengths) < 3 {
				continue
			}
			a, b, c := lengths[0], lengths[1], lengths[2]
			if !yield(slices.Concat(row[:a], []int{'e'}, row[:b], []int{api.Joiner}, row[:c])) || !yield(slices.Concat([]int{0xE9}, strewn[:a], []int{0xFB01}, strewn[b:b+c], []int{0x1100}, strewn[:b])) {
				return
			}
		}
	}
}

// behindRows ranges over short lists behind rows that are about as long as may be.
func behindRows() iter.Seq[[]int] {
	row, strewn := Row(31), Strewn(31)
	return func(yield func([]int) bool) {
		for l := range Lists([]int{'e', 0xE9, 0x301, 0x323, api.Joiner}, 3) {
			for n := 27; n < 32; n++ {
				if !yield(slices.Concat([]int{'o'}, row[:n], l)) || !yield(slices.Concat([]int{0x1ED1}, strewn[:n], l)) {
					return
				}
			}
		}
	}
}

// Bad tells numbers that are no values; some would be marks, or made of others, once they are cut down to fewer bits.
func Bad() []int {
	return []int{
		-1, -2, -0xE9, -0x301, -0x345, -1<<16 + 0xE9, -1<<32 + 0x301, math.MinInt32, math.MinInt, math.MinInt + 0xE9, api.MaxRune + 1, 1<<21 + 0x301, 1<<31 - 1,
		1<<32 + 0xE9, 1<<32 + 0x301, 1<<32 + 0x323, 1<<32 + 0xFB01, 1 << 62, 1<<62 + 0x301, math.MaxInt - 1, math.MaxInt,
	}
}

// Numbers ranges over every value, many numbers on both sides, and those that would be one of the first values, marks among them, once they are cut down to fewer bits.
func Numbers() iter.Seq[int] {
	return func(yield func(int) bool) {
		for r := -0x1000; r < api.MaxRune+0x2000; r++ {
			if !yield(r) {
				return
			}
		}
		for _, r := range beyond() {
			if !yield(r) {
				return
			}
		}
	}
}

// beyond tells the numbers that stand far from all values.
func beyond() []int {
	l := Bad()
	for r := range 0x3100 {
		for _, d := range []int{1 << 16, -1 << 16, 1 << 21, 1 << 31, 1 << 32, -1 << 32, 1 << 48, 1 << 62, math.MinInt} {
			l = append(l, r+d)
		}
	}
	return l
}

// Marks tells all marks, by their numbers.
func Marks() []int {
	var l []int
	for r := range 0x10000 {
		if prop.Mark(r) {
			l = append(l, r)
		}
	}
	return l
}

// Row tells n marks alike.
func Row(n int) []int { return slices.Repeat([]int{0x301}, max(n, 0)) }

// Strewn tells n marks, so that each class comes again and again, and no two runs of them are alike.
func Strewn(n int) []int {
	all := Marks()
	l := make([]int, max(n, 0))
	for k := range l {
		l[k] = all[(k*k+7*k)%len(all)]
	}
	return l
}
