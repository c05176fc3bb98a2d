package sample

import (
	"math"
	"slices"

	"pentrough/chans"
	"pentrough/dec"
	"pentrough/mach"
	"pentrough/norm"
	"pentrough/seg"
)

// Machines tells each machine's number.
func Machines() []int { return []int{0, 1, 2, 3, 4} }

// NoMachines tells numbers of no machine; some would be one's once they are cut down to fewer bits.
func NoMachines() []int {
	return []int{-1, -2, 5, 6, 9, 256, 257, 1 << 16, 1<<16 + 4, 1 << 32, 1<<32 + 1, 1<<32 + 4, -1 << 32, -1<<32 + 3, math.MaxInt, math.MinInt, math.MinInt + 2}
}

// Begun tells machines at which something came, each at its number.
func Begun() []mach.State {
	return []mach.State{
		{Kind: 0, D: dec.State{B: "\xe2\x82"}}, {Kind: 1, N: norm.State{L: []int{'e', 0x323}}}, {Kind: 2, N: norm.State{L: []int{'e', 0x323}}},
		{Kind: 3, G: seg.State{C: []int{'e', 0x301}, S: ClusState("oe")}}, {Kind: 4, C: []int{'e', 0x301}},
	}
}

// SameMachine: are two machines alike, be it that one's list without elements is nil?
func SameMachine(s, other mach.State) bool {
	return s.Kind == other.Kind && s.D == other.D && slices.Equal(s.N.L, other.N.L) && slices.Equal(s.G.C, other.G.C) && s.G.S == other.G.S && slices.Equal(s.C, other.C)
}

// CopyMachine tells a machine in memory of its own.
func CopyMachine(s mach.State) mach.State {
	s.N.L, s.G.C, s.C = slices.Clone(s.N.L), slices.Clone(s.G.C), slices.Clone(s.C)
	return s
}

// Items tells bytes as items.
func Items(b []byte) []int {
	var l []int
	for _, c := range b {
		l = append(l, int(c))
	}
	return l
}

// Block tells n items, of which no two are alike, nor are those of two blocks that begin at numbers far from each other.
func Block(n, from int) []int {
	l := make([]int, max(n, 0))
	for k := range l {
		l[k] = from + k
	}
	return l
}

// Blocks tells blocks of some lengths.
func Blocks(lengths ...int) [][]int {
	var l [][]int
	for k, n := range lengths {
		l = append(l, Block(n, 1000*k))
	}
	return l
}

// SameChan: are two channels alike, be it that one's list without elements is nil?
func SameChan(c, other chans.Chan) bool {
	return c.Closed == other.Closed && slices.EqualFunc(c.L, other.L, slices.Equal)
}

// CopyChan tells a channel in memory of its own.
func CopyChan(c chans.Chan) chans.Chan {
	l := slices.Clone(c.L)
	for k := range l {
		l[k] = slices.Clone(l[k])
	}
	return chans.Chan{L: l, Closed: c.Closed}
}
