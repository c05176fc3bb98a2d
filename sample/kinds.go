package sample

import (
	"math"
	"strings"

	"pentrough/clus"
	"pentrough/prop"
)

// kinds are the signs that stand for kinds of clusters, each at the kind's number.
const kinds = "oRNcezipsLVTvtx"

// OfKind tells a value of each kind of clusters, at the kind's number.
func OfKind() []int {
	return []int{'a', '\r', '\n', 0x7F, 0x301, 0x200D, 0x1F1E6, 0x600, 0x903, 0x1100, 0x1161, 0x11A8, 0xAC00, 0xAC01, 0x1F600}
}

// Values tells values of the kinds for which some signs stand: o is Other, R CR, N LF, c Control, e Extend, z ZWJ, i RI, p Prepend, s Spacing, v LV, t LVT, x Pict; L, V and T are themselves. A bar stands for nothing.
func Values(signs string) []int {
	var l []int
	for _, sign := range signs {
		if sign != '|' {
			l = append(l, OfKind()[strings.IndexRune(kinds, sign)])
		}
	}
	return l
}

// Signs tells the signs of the kinds of some values.
func Signs(l []int) string {
	var all strings.Builder
	for _, r := range l {
		all.WriteByte(kinds[prop.Gcb(r)])
	}
	return all.String()
}

// ClusState tells the State of clus at which values of the kinds came for which some signs stand.
func ClusState(signs string) clus.State {
	var s clus.State
	for _, r := range Values(signs) {
		s = clus.Next(s, r)
	}
	return s
}

// ClusStates tells every State of clus that may be, and many that are nearly one, or far from it.
func ClusStates() []clus.State {
	var l []clus.State
	kinds := []int{math.MinInt, -1 << 32, -1<<32 + prop.RI, 1 << 32, 1<<32 + prop.RI, 1<<32 + prop.Pict, math.MaxInt}
	for kind := -3; kind < 20; kind++ {
		kinds = append(kinds, kind)
	}
	for _, kind := range kinds {
		for bits := range 8 {
			l = append(l, clus.State{On: bits&1 > 0, Kind: kind, Pict: bits&2 > 0, Odd: bits&4 > 0})
		}
	}
	return l
}
