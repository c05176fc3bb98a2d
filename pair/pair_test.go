package pair_test

import (
	"math"
	"slices"
	"strconv"
	"strings"
	"sync"
	"testing"

	"pentrough/decomp"
	"pentrough/pair"
	"pentrough/prop"
)

// The document's table, to the letter.
const table = `
0041+0300=00C0 0041+0301=00C1 0041+0302=00C2 0041+0303=00C3 0041+0304=0100 0041+0306=0102 0041+0308=00C4 0041+0309=1EA2
0041+030A=00C5 0041+0323=1EA0 0041+0328=0104 0043+0301=0106 0043+0302=0108 0043+0307=010A 0043+030C=010C 0043+0327=00C7
0044+030C=010E 0045+0300=00C8 0045+0301=00C9 0045+0302=00CA 0045+0303=1EBC 0045+0304=0112 0045+0306=0114 0045+0307=0116
0045+0308=00CB 0045+0309=1EBA 0045+030C=011A 0045+0323=1EB8 0045+0328=0118 0047+0302=011C 0047+0306=011E 0047+0307=0120
0047+0327=0122 0048+0302=0124 0049+0300=00CC 0049+0301=00CD 0049+0302=00CE 0049+0303=0128 0049+0304=012A 0049+0306=012C
0049+0307=0130 0049+0308=00CF 0049+0309=1EC8 0049+0323=1ECA 0049+0328=012E 004A+0302=0134 004B+0327=0136 004C+0301=0139
004C+030C=013D 004C+0327=013B 004E+0301=0143 004E+0303=00D1 004E+030C=0147 004E+0327=0145 004F+0300=00D2 004F+0301=00D3
004F+0302=00D4 004F+0303=00D5 004F+0304=014C 004F+0306=014E 004F+0308=00D6 004F+0309=1ECE 004F+030B=0150 004F+031B=01A0
004F+0323=1ECC 0052+0301=0154 0052+030C=0158 0052+0327=0156 0053+0301=015A 0053+0302=015C 0053+030C=0160 0053+0327=015E
0054+030C=0164 0054+0327=0162 0055+0300=00D9 0055+0301=00DA 0055+0302=00DB 0055+0303=0168 0055+0304=016A 0055+0306=016C
0055+0308=00DC 0055+0309=1EE6 0055+030A=016E 0055+030B=0170 0055+031B=01AF 0055+0323=1EE4 0055+0328=0172 0057+0302=0174
0059+0300=1EF2 0059+0301=00DD 0059+0302=0176 0059+0303=1EF8 0059+0308=0178 0059+0309=1EF6 0059+0323=1EF4 005A+0301=0179
005A+0307=017B 005A+030C=017D 0061+0300=00E0 0061+0301=00E1 0061+0302=00E2 0061+0303=00E3 0061+0304=0101 0061+0306=0103
0061+0308=00E4 0061+0309=1EA3 0061+030A=00E5 0061+0323=1EA1 0061+0328=0105 0063+0301=0107 0063+0302=0109 0063+0307=010B
0063+030C=010D 0063+0327=00E7 0064+030C=010F 0065+0300=00E8 0065+0301=00E9 0065+0302=00EA 0065+0303=1EBD 0065+0304=0113
0065+0306=0115 0065+0307=0117 0065+0308=00EB 0065+0309=1EBB 0065+030C=011B 0065+0323=1EB9 0065+0328=0119 0067+0302=011D
0067+0306=011F 0067+0307=0121 0067+0327=0123 0068+0302=0125 0069+0300=00EC 0069+0301=00ED 0069+0302=00EE 0069+0303=0129
0069+0304=012B 0069+0306=012D 0069+0308=00EF 0069+0309=1EC9 0069+0323=1ECB 0069+0328=012F 006A+0302=0135 006B+0327=0137
006C+0301=013A 006C+030C=013E 006C+0327=013C 006E+0301=0144 006E+0303=00F1 006E+030C=0148 006E+0327=0146 006F+0300=00F2
006F+0301=00F3 006F+0302=00F4 006F+0303=00F5 006F+0304=014D 006F+0306=014F 006F+0308=00F6 006F+0309=1ECF 006F+030B=0151
006F+031B=01A1 006F+0323=1ECD 0072+0301=0155 0072+030C=0159 0072+0327=0157 0073+0301=015B 0073+0302=015D 0073+030C=0161
0073+0327=015F 0074+030C=0165 0074+0327=0163 0075+0300=00F9 0075+0301=00FA 0075+0302=00FB 0075+0303=0169 0075+0304=016B
0075+0306=016D 0075+0308=00FC 0075+0309=1EE7 0075+030A=016F 0075+030B=0171 0075+031B=01B0 0075+0323=1EE5 0075+0328=0173
0077+0302=0175 0079+0300=1EF3 0079+0301=00FD 0079+0302=0177 0079+0303=1EF9 0079+0308=00FF 0079+0309=1EF7 0079+0323=1EF5
007A+0301=017A 007A+0307=017C 007A+030C=017E 00C2+0300=1EA6 00C2+0301=1EA4 00C2+0303=1EAA 00C2+0309=1EA8 00CA+0300=1EC0
00CA+0301=1EBE 00CA+0303=1EC4 00CA+0309=1EC2 00D4+0300=1ED2 00D4+0301=1ED0 00D4+0303=1ED6 00D4+0309=1ED4 00E2+0300=1EA7
00E2+0301=1EA5 00E2+0303=1EAB 00E2+0309=1EA9 00EA+0300=1EC1 00EA+0301=1EBF 00EA+0303=1EC5 00EA+0309=1EC3 00F4+0300=1ED3
00F4+0301=1ED1 00F4+0303=1ED7 00F4+0309=1ED5 0102+0300=1EB0 0102+0301=1EAE 0102+0303=1EB4 0102+0309=1EB2 0103+0300=1EB1
0103+0301=1EAF 0103+0303=1EB5 0103+0309=1EB3 01A0+0300=1EDC 01A0+0301=1EDA 01A0+0303=1EE0 01A0+0309=1EDE 01A0+0323=1EE2
01A1+0300=1EDD 01A1+0301=1EDB 01A1+0303=1EE1 01A1+0309=1EDF 01A1+0323=1EE3 01AF+0300=1EEA 01AF+0301=1EE8 01AF+0303=1EEE
01AF+0309=1EEC 01AF+0323=1EF0 01B0+0300=1EEB 01B0+0301=1EE9 01B0+0303=1EEF 01B0+0309=1EED 01B0+0323=1EF1 0391+0301=0386
0395+0301=0388 0397+0301=0389 0399+0301=038A 0399+0308=03AA 039F+0301=038C 03A5+0301=038E 03A5+0308=03AB 03A9+0301=038F
03B1+0301=03AC 03B5+0301=03AD 03B7+0301=03AE 03B9+0301=03AF 03B9+0308=03CA 03BF+0301=03CC 03C5+0301=03CD 03C5+0308=03CB
03C9+0301=03CE 03CA+0301=0390 03CB+0301=03B0 1EA0+0302=1EAC 1EA0+0306=1EB6 1EA1+0302=1EAD 1EA1+0306=1EB7 1EB8+0302=1EC6
1EB9+0302=1EC7 1ECC+0302=1ED8 1ECD+0302=1ED9 304B+3099=304C 304D+3099=304E 304F+3099=3050 3051+3099=3052 3053+3099=3054
3055+3099=3056 3057+3099=3058 3059+3099=305A 305B+3099=305C 305D+3099=305E 305F+3099=3060 3061+3099=3062 3064+3099=3065
3066+3099=3067 3068+3099=3069 306F+3099=3070 30AB+3099=30AC 30AD+3099=30AE 30AF+3099=30B0 30B1+3099=30B2 30B3+3099=30B4
30B5+3099=30B6 30B7+3099=30B8 30B9+3099=30BA 30BB+3099=30BC 30BD+3099=30BE 30BF+3099=30C0 30C1+3099=30C2 30C4+3099=30C5
30C6+3099=30C7 30C8+3099=30C9 30CF+3099=30D0`

// A two is a pair's values.
type two struct{ a, b int }

// far: numbers that, added to a value, come to no value that stands in a pair, but to one that is the same once it is cut down to fewer bits.
var far = []int{
	1 << 16, -1 << 16, 1 << 20, 1 << 21, -1 << 21, 1 << 24, 1 << 31, -1 << 31, 1 << 32, -1 << 32, 1<<32 + 1<<16, 1 << 48, -1 << 48, 1 << 62, math.MinInt,
}

// ends: where something begins or ends, and numbers that are no values.
var ends = []int{
	math.MinInt, math.MinInt + 1, math.MinInt + 0x41, math.MinInt + 0xAC00, math.MinInt32, -1 << 21, -0xAC00, -0x1100, -0x41, -1, 0, 1, ' ', 'A', 'e', 'z',
	0x9F, 0xA0, 0xBF, 0xC0, 0xC2, 0xE9, 0x2FF, 0x300, 0x301, 0x328, 0x329, 0x34F, 0x385, 0x3CE, 0x10FF, 0x1100, 0x1101, 0x1111, 0x1112, 0x1113,
	0x1160, 0x1161, 0x1162, 0x1174, 0x1175, 0x1176, 0x11A7, 0x11A8, 0x11A9, 0x11C1, 0x11C2, 0x11C3, 0x1EF9, 0x304B, 0x3098, 0x3099, 0x309A, 0x30CF, 0x30D0,
	0xABFF, 0xAC00, 0xAC01, 0xAC1B, 0xAC1C, 0xD787, 0xD788, 0xD789, 0xD7A3, 0xD7A4, 0xD800, 0xDFFF, 0xFFFD, 0xFFFF, 0x10FFFF, 0x110000, 0x1100E9,
	1<<21 + 0xAC00, 1<<31 - 1, 1<<32 + 'e', 1<<32 + 0x301, 1<<32 + 0x1161, 1<<32 + 0xAC00, 1 << 62, math.MaxInt - 0xAC00, math.MaxInt - 1, math.MaxInt,
}

// number reads a number of the table.
func number(t *testing.T, s string) int {
	n, err := strconv.ParseInt(s, 16, 64)
	if err != nil {
		t.Fatal(err)
	}
	return int(n)
}

// read tells the pairs of the table, and what each is.
func read(t *testing.T) map[two]int {
	all := map[two]int{}
	for _, row := range strings.Fields(table) {
		values, whole, _ := strings.Cut(row, "=")
		a, b, _ := strings.Cut(values, "+")
		p := two{number(t, a), number(t, b)}
		if _, twice := all[p]; twice {
			t.Fatalf("%04X + %04X stands twice in the table", p.a, p.b)
		}
		all[p] = number(t, whole)
	}
	return all
}

// pairs tells all pairs, and what each is: those of the table, and Hangul's, counted off in the order of their syllables.
func pairs(t *testing.T) map[two]int {
	all := read(t)
	r := 0xAC00
	for lead := 0x1100; lead <= 0x1112; lead++ {
		for vowel := 0x1161; vowel <= 0x1175; vowel++ {
			open := r
			all[two{lead, vowel}] = open
			r++
			for tail := 0x11A8; tail <= 0x11C2; tail++ {
				all[two{open, tail}] = r
				r++
			}
		}
	}
	if r != 0xD7A4 {
		t.Fatalf("the last syllable is %04X", r-1)
	}
	return all
}

// backs tells which two each value is that is two.
func backs(t *testing.T) map[int]two {
	all := map[int]two{}
	for p, r := range pairs(t) {
		if other, twice := all[r]; twice {
			t.Fatalf("%04X is %04X + %04X and %04X + %04X", r, p.a, p.b, other.a, other.b)
		}
		all[r] = p
	}
	return all
}

// firsts and seconds tell the values that stand in some pair, at its first and at its second place.

func firsts(all map[two]int) map[int]bool {
	some := map[int]bool{}
	for p := range all {
		some[p.a] = true
	}
	return some
}

func seconds(all map[two]int) map[int]bool {
	some := map[int]bool{}
	for p := range all {
		some[p.b] = true
	}
	return some
}

// checkJoin holds what a and b are together against all pairs.
func checkJoin(t *testing.T, all map[two]int, a, b int) {
	want, is := all[two{a, b}]
	if r, ok := pair.Join(a, b); r != want || ok != is {
		t.Fatalf("Join(%#x, %#x) = %#x, %v; want %#x, %v", a, b, r, ok, want, is)
	}
}

// checkBack holds which two r is against all of them.
func checkBack(t *testing.T, all map[int]two, r int) {
	want, is := all[r]
	if a, b, ok := pair.Back(r); (two{a, b}) != want || ok != is {
		t.Fatalf("Back(%#x) = %#x, %#x, %v; want %#x, %#x, %v", r, a, b, ok, want.a, want.b, is)
	}
}

// P5.1

func TestJoinOfPairs(t *testing.T) {
	all := pairs(t)
	for p := range all {
		checkJoin(t, all, p.a, p.b)
		if p.a != p.b {
			checkJoin(t, all, p.b, p.a)
		}
	}
}

// Every value beside every one that stands at the other place of some pair of the table or of Hangul; of Hangul's many syllables the first ones do.
func TestJoinOfOneThatStandsInAPair(t *testing.T) {
	all := pairs(t)
	for b := range seconds(all) {
		for a := -0x100; a < 0x10000; a++ {
			checkJoin(t, all, a, b)
		}
	}
	for a := range firsts(all) {
		if a > 0xAC00+28*3 {
			continue
		}
		for b := -0x100; b < 0x10000; b++ {
			checkJoin(t, all, a, b)
		}
	}
}

func TestJoinOfSyllables(t *testing.T) {
	all := pairs(t)
	for a := 0xABF0; a < 0xD7C0; a++ {
		for b := 0x1160; b <= 0x1176; b++ {
			checkJoin(t, all, a, b)
		}
		for b := 0x11A6; b <= 0x11C5; b++ {
			checkJoin(t, all, a, b)
		}
	}
	for a := 0x10F0; a < 0x1200; a++ {
		for b := 0x10F0; b < 0x1200; b++ {
			checkJoin(t, all, a, b)
		}
	}
}

func TestJoinFarOff(t *testing.T) {
	all := pairs(t)
	for p := range all {
		for _, d := range far {
			checkJoin(t, all, p.a+d, p.b)
			checkJoin(t, all, p.a, p.b+d)
			checkJoin(t, all, p.a+d, p.b-d)
			checkJoin(t, all, p.a+d, p.b+d)
		}
		checkJoin(t, all, -p.a, p.b)
		checkJoin(t, all, p.a, -p.b)
		checkJoin(t, all, -p.a, -p.b)
	}
}

func TestByHand(t *testing.T) {
	for _, x := range []struct{ a, b, r int }{
		{'A', 0x300, 0xC0}, {'A', 0x30A, 0xC5}, {'e', 0x301, 0xE9}, {'z', 0x30C, 0x17E}, {0xC2, 0x300, 0x1EA6}, {0x102, 0x309, 0x1EB2},
		{0x1A0, 0x323, 0x1EE2}, {0x1B0, 0x323, 0x1EF1}, {0x391, 0x301, 0x386}, {0x3B9, 0x308, 0x3CA}, {0x3CA, 0x301, 0x390}, {0x3CB, 0x301, 0x3B0},
		{0x1EA1, 0x302, 0x1EAD}, {0x1ECD, 0x302, 0x1ED9}, {0x304B, 0x3099, 0x304C}, {0x30CF, 0x3099, 0x30D0},
		{0x1100, 0x1161, 0xAC00}, {0x1100, 0x1162, 0xAC1C}, {0x1100, 0x1175, 0xAE30}, {0x1101, 0x1161, 0xAE4C}, {0x1112, 0x1161, 0xD558}, {0x1112, 0x1175, 0xD788},
		{0xAC00, 0x11A8, 0xAC01}, {0xAC00, 0x11C2, 0xAC1B}, {0xAC1C, 0x11A8, 0xAC1D}, {0xD788, 0x11A8, 0xD789}, {0xD788, 0x11C2, 0xD7A3},
	} {
		if r, ok := pair.Join(x.a, x.b); r != x.r || !ok {
			t.Errorf("Join(%#x, %#x) = %#x, %v; want %#x", x.a, x.b, r, ok, x.r)
		}
		if a, b, ok := pair.Back(x.r); a != x.a || b != x.b || !ok {
			t.Errorf("Back(%#x) = %#x, %#x, %v; want %#x, %#x", x.r, a, b, ok, x.a, x.b)
		}
	}
}

func TestNoPairsByHand(t *testing.T) {
	for _, x := range []two{
		{0, 0}, {'e', 0}, {0, 0x301}, {'e', 'f'}, {'e', 0x300 - 1}, {0x301, 'e'}, {0x301, 0x301}, {0xE9, 0x301}, {'e', 0x30A}, {'q', 0x301},
		{'@', 0x300}, {0x3CE, 0x301}, {0x30D0, 0x3099}, {0x30CF, 0x309A}, {' ', 0x308}, {'f', 'i'}, {'I', 'J'}, {'1', 0x2044}, {0x915, 0x93C},
		{0x212B, 0x301}, {0x10FF, 0x1161}, {0x1113, 0x1161}, {0x1100, 0x1160}, {0x1100, 0x1176}, {0x1161, 0x1100}, {0x1100, 0x11A8},
		{0xABE4, 0x11A8}, {0xAC00, 0x11A7}, {0xAC00, 0x11C3}, {0xAC00, 0x1161}, {0xAC01, 0x11A8}, {0xAC1B, 0x11A8}, {0xD7A3, 0x11A8}, {0xD7A4, 0x11A8},
		{-1, 0x301}, {'e', -1}, {math.MinInt, math.MinInt}, {math.MaxInt, math.MaxInt}, {math.MinInt, 0x11A8}, {0xAC00, math.MaxInt},
	} {
		if r, ok := pair.Join(x.a, x.b); r != 0 || ok {
			t.Errorf("Join(%#x, %#x) = %#x, %v", x.a, x.b, r, ok)
		}
	}
}

// P5.2

func TestBack(t *testing.T) {
	all := backs(t)
	for r := -0x30000; r < 0x330000; r++ {
		checkBack(t, all, r)
	}
	for _, r := range ends {
		checkBack(t, all, r)
	}
}

func TestBackFarOff(t *testing.T) {
	all := backs(t)
	for r := range all {
		for _, d := range far {
			checkBack(t, all, r+d)
		}
		checkBack(t, all, -r)
	}
}

func TestNoneBackByHand(t *testing.T) {
	for _, r := range []int{
		0, 'a', 0xA0, 0xA8, 0xAF, 0xB4, 0xB8, 0xBC, 0xC6, 0xD8, 0x132, 0x149, 0x17F, 0x301, 0x387, 0x958, 0x959, 0x95A, 0x1100, 0x1161, 0x11A8,
		0x2126, 0x212A, 0x212B, 0x2161, 0x2167, 0x304B, 0xABFF, 0xD7A4, 0xD800, 0xFB00, 0xFB03, 0xFF21, 0xFF5E, 0x100E9, 0x10FFFF, 0x110000, -1,
		math.MinInt, math.MaxInt,
	} {
		if a, b, ok := pair.Back(r); a != 0 || b != 0 || ok {
			t.Errorf("Back(%#x) = %#x, %#x, %v", r, a, b, ok)
		}
	}
}

// Back and Join tell of the same pairs.

func TestThereAndBack(t *testing.T) {
	for r := range 0x110000 {
		a, b, is := pair.Back(r)
		if !is {
			continue
		}
		if whole, ok := pair.Join(a, b); whole != r || !ok {
			t.Fatalf("%#x is %#x + %#x, and these are %#x, %v", r, a, b, whole, ok)
		}
	}
}

// P5.3

func TestNoTwoPairsAreTheSame(t *testing.T) {
	of := map[int]two{}
	for p := range pairs(t) {
		r, _ := pair.Join(p.a, p.b)
		if other, twice := of[r]; twice {
			t.Fatalf("%#x is %#x + %#x and %#x + %#x", r, p.a, p.b, other.a, other.b)
		}
		of[r] = p
	}
}

func TestPairsAreMadeOfWhatTheirTwoAreMadeOf(t *testing.T) {
	for p := range pairs(t) {
		r, _ := pair.Join(p.a, p.b)
		row := slices.Concat(decomp.Full(p.a), decomp.Full(p.b))
		ordered := slices.Clone(row)
		slices.SortStableFunc(ordered[1:], func(x, y int) int { return prop.Ccc(x) - prop.Ccc(y) })
		if l := decomp.Full(r); !slices.Equal(l, row) && !slices.Equal(l, ordered) {
			t.Fatalf("%#x + %#x, made of %#x, is %#x, made of %#x", p.a, p.b, row, r, l)
		}
	}
}

// R6: what stands in none of the rows is no pair, whatever Unicode says of it.

func TestWhatUnicodeAlonePutsThere(t *testing.T) {
	for _, x := range []struct{ a, b, r int }{
		{'A', 0x307, 0x226}, {'a', 0x30C, 0x1CE}, {'b', 0x307, 0x1E03}, {0xDC, 0x304, 0x1D5}, {0xC5, 0x301, 0x1FA}, {0xC6, 0x301, 0x1FC},
		{0x3B1, 0x345, 0x1FB3}, {0x418, 0x306, 0x419}, {0x627, 0x653, 0x622}, {0x928, 0x93C, 0x929}, {0x9C7, 0x9BE, 0x9CB}, {0x2190, 0x338, 0x219A},
		{0x3046, 0x3099, 0x3094}, {0x306F, 0x309A, 0x3071}, {0x3072, 0x3099, 0x3073}, {0x30CF, 0x309A, 0x30D1}, {0x30A6, 0x3099, 0x30F4},
		{0x915, 0x93C, 0x958}, {0x11099, 0x110BA, 0x1109A},
	} {
		if r, ok := pair.Join(x.a, x.b); r != 0 || ok {
			t.Errorf("Join(%#x, %#x) = %#x, %v", x.a, x.b, r, ok)
		}
		if a, b, ok := pair.Back(x.r); a != 0 || b != 0 || ok {
			t.Errorf("Back(%#x) = %#x, %#x, %v", x.r, a, b, ok)
		}
	}
}

// P1: every call ends, and none panics.
func TestEndsAndNoPanics(t *testing.T) {
	joins, there := pairs(t), backs(t)
	for _, a := range ends {
		checkBack(t, there, a)
		for _, b := range ends {
			checkJoin(t, joins, a, b)
		}
	}
}

// Nothing is kept: the calls of several that go at once are as those of one, and the wrong ones leave nothing behind.
func TestCallsAtOnce(t *testing.T) {
	var all sync.WaitGroup
	for range 8 {
		all.Go(func() {
			for _, r := range ends {
				pair.Join(r, 0x301)
				pair.Join('e', r)
				pair.Back(r)
				whole, is := pair.Join('e', 0x301)
				a, b, was := pair.Back(0xAC01)
				if whole != 0xE9 || !is || a != 0xAC00 || b != 0x11A8 || !was {
					t.Errorf("behind %#x, 0065 + 0301 is %#x, and AC01 is %#x + %#x", r, whole, a, b)
					return
				}
			}
		})
	}
	all.Wait()
}
