package prop_test

import (
	"math"
	"strconv"
	"strings"
	"sync"
	"testing"

	"pentrough/prop"
)

// The document's tables, to the letter.
const (
	classes = `
0300-0314=230 0315=232 0316-0319=220 031A=232 031B=216 031C-0320=220 0321-0322=202 0323-0326=220
0327-0328=202 0329-0333=220 0334-0338=1 0339-033C=220 033D-0344=230 0345=240 0346=230 0347-0349=220
034A-034C=230 034D-034E=220 0350-0352=230 0353-0356=220 0357=230 0358=232 0359-035A=220 035B=230
035C=233 035D-035E=234 035F=233 0360-0361=234 0362=233 0363-036F=230 064B=27 064C=28
064D=29 064E=30 064F=31 0650=32 0651=33 0652=34 093C=7 094D=9
20D0-20D1=230 3099-309A=8`
	kinds = `
0000-0009=3 000A=2 000B-000C=3 000D=1 000E-001F=3 007F-009F=3 00A9=14 00AD=3
00AE=14 0300-036F=4 0600-0605=7 061C=3 064B-065F=4 06DD=7 0903=8 093B=8
093C=4 093E-0940=8 0949-094C=8 094D=4 1100-115F=9 1160-11A7=10 11A8-11FF=11 200B=3
200C=4 200D=5 200E-200F=3 2028-202E=3 203C=14 2049=14 2060-206F=3 20D0-20F0=4
2122=14 2139=14 2194-2199=14 231A-231B=14 2600-2604=14 2611=14 2614-2615=14 263A=14
2665=14 26A1=14 2705=14 2764=14 3099-309A=4 FE00-FE0F=4 FEFF=3 1F1E6-1F1FF=6
1F300-1F3FA=14 1F3FB-1F3FF=4 1F400-1F64F=14 1F680-1F6FF=14 1F900-1F9FF=14`
	dropped = `
00AD 034F 061C 115F-1160 17B4-17B5 180B-180F 200B-200F 202A-202E
2060-206F 3164 FE00-FE0F FEFF FFA0 FFF0-FFF8 E0000-E0FFF`
)

// numbers that are no values; some of them would have a property if they were cut down to fewer bits.
var bad = []int{
	-1, -2, -5, -10, -0x301, -0x200D, -0xAC00, -0xD7A3, -1<<16 + 0x301, -1<<21 + 0xAC00, -1<<32 + 0x301, -1<<32 + 0xAC00,
	-1<<63 + 0x301, math.MinInt32, math.MinInt32 + 0x301, math.MinInt, math.MinInt + 0xAC00, math.MinInt + 1,
	0x110000, 0x110001, 0x110301, 0x110000 + 0xAC00, 0x200000, 0x20000D, 0x200301, 0x20AC00, 0x200000 + 0xAC00, 0x2E0000,
	0x1000301, 1<<31 + 0x301, 1<<32 + 0, 1<<32 + 0xAD, 1<<32 + 0x301, 1<<32 + 0x200D, 1<<32 + 0xAC00, 1<<32 + 0xE0000,
	1 << 62, 1<<62 + 0x301, math.MaxInt32, math.MaxUint32, math.MaxInt - 0x301, math.MaxInt,
}

// number reads a number of a table, of base 10 or 16.
func number(t *testing.T, s string, base int) int {
	n, err := strconv.ParseInt(s, base, 64)
	if err != nil {
		t.Fatal(err)
	}
	return int(n)
}

// read tells what each value of a table is by it, and 1 where the table says nothing but that it stands there.
func read(t *testing.T, table string) map[int]int {
	all := map[int]int{}
	for _, row := range strings.Fields(table) {
		values, what, said := strings.Cut(row, "=")
		is := 1
		if said {
			is = number(t, what, 10)
		}
		first, last, more := strings.Cut(values, "-")
		if !more {
			last = first
		}
		for r := number(t, first, 16); r <= number(t, last, 16); r++ {
			if _, twice := all[r]; twice {
				t.Fatalf("%04X stands twice in the table", r)
			}
			all[r] = is
		}
	}
	return all
}

// each ranges over all values, and many numbers on both sides of them.
func each(yield func(int) bool) {
	for r := -0x30000; r < 0x330000; r++ {
		if !yield(r) {
			return
		}
	}
	for _, r := range bad {
		if !yield(r) {
			return
		}
	}
}

// P3.1

func TestCcc(t *testing.T) {
	table := read(t, classes)
	for r := range each {
		if c := prop.Ccc(r); c != table[r] {
			t.Fatalf("Ccc(%#x) = %d; want %d", r, c, table[r])
		}
	}
}

func TestMark(t *testing.T) {
	table := read(t, classes)
	for r := range each {
		if is := prop.Mark(r); is != (table[r] > 0) {
			t.Fatalf("Mark(%#x) = %v; its class is %d", r, is, table[r])
		}
	}
}

func TestDrops(t *testing.T) {
	table := read(t, dropped)
	for r := range each {
		if is := prop.Drops(r); is != (table[r] > 0) {
			t.Fatalf("Drops(%#x) = %v", r, is)
		}
	}
}

func TestClassesByHand(t *testing.T) {
	for _, x := range []struct{ r, class int }{
		{0, 0}, {'a', 0}, {0xE9, 0}, {0x2FF, 0}, {0x300, 230}, {0x301, 230}, {0x314, 230}, {0x315, 232}, {0x316, 220},
		{0x31A, 232}, {0x31B, 216}, {0x31C, 220}, {0x320, 220}, {0x321, 202}, {0x322, 202}, {0x323, 220}, {0x327, 202},
		{0x328, 202}, {0x333, 220}, {0x334, 1}, {0x338, 1}, {0x339, 220}, {0x344, 230}, {0x345, 240}, {0x346, 230},
		{0x34E, 220}, {0x34F, 0}, {0x350, 230}, {0x35C, 233}, {0x35D, 234}, {0x35E, 234}, {0x362, 233}, {0x36F, 230},
		{0x370, 0}, {0x64A, 0}, {0x64B, 27}, {0x650, 32}, {0x652, 34}, {0x653, 0}, {0x93B, 0}, {0x93C, 7}, {0x93D, 0},
		{0x94C, 0}, {0x94D, 9}, {0x94E, 0}, {0x20CF, 0}, {0x20D0, 230}, {0x20D1, 230}, {0x20D2, 0}, {0x3098, 0},
		{0x3099, 8}, {0x309A, 8}, {0x309B, 0}, {0x200D, 0}, {0xAC00, 0}, {0xD800, 0}, {0x10FFFF, 0},
	} {
		if c := prop.Ccc(x.r); c != x.class || prop.Mark(x.r) != (x.class > 0) {
			t.Errorf("Ccc(%#x) = %d, Mark = %v; the class is %d", x.r, c, prop.Mark(x.r), x.class)
		}
	}
}

func TestDropsByHand(t *testing.T) {
	for _, r := range []int{
		0xAD, 0x34F, 0x61C, 0x115F, 0x1160, 0x17B4, 0x17B5, 0x180B, 0x180F, 0x200B, 0x200D, 0x200F, 0x202A, 0x202E,
		0x2060, 0x206F, 0x3164, 0xFE00, 0xFE0F, 0xFEFF, 0xFFA0, 0xFFF0, 0xFFF8, 0xE0000, 0xE0001, 0xE0FFF,
	} {
		if !prop.Drops(r) {
			t.Errorf("Drops(%#x) = false", r)
		}
	}
	for _, r := range []int{
		0, 'a', 0xAC, 0xAE, 0x34E, 0x350, 0x61B, 0x61D, 0x115E, 0x1161, 0x17B3, 0x17B6, 0x180A, 0x1810, 0x200A, 0x2010,
		0x2028, 0x2029, 0x202F, 0x205F, 0x2070, 0x3163, 0x3165, 0xFDFF, 0xFE10, 0xFEFE, 0xFF00, 0xFF9F, 0xFFA1, 0xFFEF,
		0xFFF9, 0xFFFD, 0xDFFFF, 0xE1000, 0x10FFFF,
	} {
		if prop.Drops(r) {
			t.Errorf("Drops(%#x) = true", r)
		}
	}
}

// P3.2

func TestNumbersOfKinds(t *testing.T) {
	for n, k := range []int{
		prop.Other, prop.CR, prop.LF, prop.Control, prop.Extend, prop.ZWJ, prop.RI, prop.Prepend, prop.Spacing,
		prop.L, prop.V, prop.T, prop.LV, prop.LVT, prop.Pict,
	} {
		if k != n {
			t.Errorf("the kind that is to be %d is %d", n, k)
		}
	}
}

func TestGcb(t *testing.T) {
	table := read(t, kinds)
	for r := 0xAC00; r <= 0xD7A3; r++ {
		table[r] = 13
	}
	for beginning := range 19 {
		for vowel := range 21 {
			table[0xAC00+(beginning*21+vowel)*28] = 12
		}
	}
	for r := range each {
		if k := prop.Gcb(r); k != table[r] {
			t.Fatalf("Gcb(%#x) = %d; want %d", r, k, table[r])
		}
	}
}

func TestKindsByHand(t *testing.T) {
	for _, x := range []struct{ r, kind int }{
		{0, prop.Control}, {'\t', prop.Control}, {'\n', prop.LF}, {0x0B, prop.Control}, {'\r', prop.CR}, {0x0E, prop.Control},
		{0x1F, prop.Control}, {' ', prop.Other}, {'a', prop.Other}, {0x7E, prop.Other}, {0x7F, prop.Control}, {0x9F, prop.Control},
		{0xA0, prop.Other}, {0xA9, prop.Pict}, {0xAD, prop.Control}, {0xAE, prop.Pict}, {0x2FF, prop.Other}, {0x300, prop.Extend},
		{0x34F, prop.Extend}, {0x36F, prop.Extend}, {0x370, prop.Other}, {0x600, prop.Prepend}, {0x605, prop.Prepend},
		{0x606, prop.Other}, {0x61C, prop.Control}, {0x65F, prop.Extend}, {0x660, prop.Other}, {0x6DD, prop.Prepend},
		{0x903, prop.Spacing}, {0x93B, prop.Spacing}, {0x93C, prop.Extend}, {0x93D, prop.Other}, {0x93E, prop.Spacing},
		{0x940, prop.Spacing}, {0x941, prop.Other}, {0x94C, prop.Spacing}, {0x94D, prop.Extend}, {0x10FF, prop.Other},
		{0x1100, prop.L}, {0x115F, prop.L}, {0x1160, prop.V}, {0x11A7, prop.V}, {0x11A8, prop.T}, {0x11FF, prop.T}, {0x1200, prop.Other},
		{0x200A, prop.Other}, {0x200B, prop.Control}, {0x200C, prop.Extend}, {0x200D, prop.ZWJ}, {0x200E, prop.Control},
		{0x2010, prop.Other}, {0x20F0, prop.Extend}, {0x20F1, prop.Other}, {0x2764, prop.Pict}, {0x3099, prop.Extend},
		{0xABFF, prop.Other}, {0xAC00, prop.LV}, {0xAC01, prop.LVT}, {0xAC1B, prop.LVT}, {0xAC1C, prop.LV}, {0xAC1D, prop.LVT},
		{0xD788, prop.LV}, {0xD7A3, prop.LVT}, {0xD7A4, prop.Other}, {0xD7B0, prop.Other}, {0xD800, prop.Other}, {0xDFFF, prop.Other},
		{0xFE0F, prop.Extend}, {0xFE10, prop.Other}, {0xFEFF, prop.Control}, {0x1F1E5, prop.Other}, {0x1F1E6, prop.RI}, {0x1F1FF, prop.RI},
		{0x1F200, prop.Other}, {0x1F300, prop.Pict}, {0x1F3FA, prop.Pict}, {0x1F3FB, prop.Extend}, {0x1F3FF, prop.Extend},
		{0x1F400, prop.Pict}, {0x1F600, prop.Pict}, {0x1F64F, prop.Pict}, {0x1F650, prop.Other}, {0x1F680, prop.Pict},
		{0x1F700, prop.Other}, {0x1F9FF, prop.Pict}, {0x1FA00, prop.Other}, {0xE0000, prop.Other}, {0x10FFFF, prop.Other},
	} {
		if k := prop.Gcb(x.r); k != x.kind {
			t.Errorf("Gcb(%#x) = %d; want %d", x.r, k, x.kind)
		}
	}
}

// R6: what stands in none of the rows has no property, whatever Unicode says of it.

func TestWhatUnicodeAlonePutsThere(t *testing.T) {
	for _, r := range []int{0x483, 0x591, 0x5B0, 0x653, 0x670, 0x9BC, 0xE38, 0x1AB0, 0x1DC0, 0x20D2, 0x302A, 0xFE20, 0x1D165} {
		if prop.Ccc(r) != 0 || prop.Mark(r) {
			t.Errorf("Ccc(%#x) = %d, Mark = %v", r, prop.Ccc(r), prop.Mark(r))
		}
	}
	for _, r := range []int{0x483, 0x900, 0x941, 0xE33, 0xA960, 0xD7B0, 0xD7CB, 0x21A9, 0x2B50, 0xFE20, 0x1F004, 0x1FA70, 0xE0001, 0xE0100} {
		if k := prop.Gcb(r); k != prop.Other {
			t.Errorf("Gcb(%#x) = %d", r, k)
		}
	}
	for _, r := range []int{0x1D173, 0x1D17A, 0x1BCA0} {
		if prop.Drops(r) {
			t.Errorf("Drops(%#x) = true", r)
		}
	}
}

// P3.3

func TestNoValueNoProperty(t *testing.T) {
	check := func(r int) {
		if c, k := prop.Ccc(r), prop.Gcb(r); c != 0 || k != prop.Other || prop.Drops(r) || prop.Mark(r) {
			t.Fatalf("%#x has class %d, kind %d, drops %v, mark %v", r, c, k, prop.Drops(r), prop.Mark(r))
		}
	}
	for _, r := range bad {
		check(r)
	}
	for r := range 0x120000 {
		check(-1 - r)
		check(0x110000 + r)
		check(1<<32 + r)
		check(-1<<32 + r)
		check(math.MinInt + r)
		check(math.MaxInt - r)
	}
}

// Nothing is kept: the calls of several that go at once are as those of one, and the wrong ones leave nothing behind.
func TestCallsAtOnce(t *testing.T) {
	var all sync.WaitGroup
	for range 8 {
		all.Go(func() {
			for _, r := range bad {
				prop.Ccc(r)
				prop.Gcb(r)
				prop.Drops(r)
				prop.Mark(r)
				for range 100 {
					if prop.Ccc(0x301) != 230 || !prop.Mark(0x301) || prop.Gcb(0xAC1C) != prop.LV || prop.Gcb(0x200D) != prop.ZWJ || !prop.Drops(0x200D) {
						t.Errorf("behind %#x, the properties of 0301, AC1C or 200D are others", r)
						return
					}
				}
			}
		})
	}
	all.Wait()
}
