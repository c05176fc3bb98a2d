package casing_test

import (
	"math"
	"slices"
	"strconv"
	"strings"
	"sync"
	"testing"

	"pentrough/casing"
)

// The document's table, to the letter.
const table = `
0041=0061 0042=0062 0043=0063 0044=0064 0045=0065 0046=0066 0047=0067 0048=0068 0049=0069
004A=006A 004B=006B 004C=006C 004D=006D 004E=006E 004F=006F 0050=0070 0051=0071 0052=0072
0053=0073 0054=0074 0055=0075 0056=0076 0057=0077 0058=0078 0059=0079 005A=007A 00B5=03BC
00C0=00E0 00C1=00E1 00C2=00E2 00C3=00E3 00C4=00E4 00C5=00E5 00C6=00E6 00C7=00E7 00C8=00E8
00C9=00E9 00CA=00EA 00CB=00EB 00CC=00EC 00CD=00ED 00CE=00EE 00CF=00EF 00D0=00F0 00D1=00F1
00D2=00F2 00D3=00F3 00D4=00F4 00D5=00F5 00D6=00F6 00D8=00F8 00D9=00F9 00DA=00FA 00DB=00FB
00DC=00FC 00DD=00FD 00DE=00FE 00DF=0073,0073 0100=0101 0102=0103 0104=0105 0106=0107 0108=0109
010A=010B 010C=010D 010E=010F 0110=0111 0112=0113 0114=0115 0116=0117 0118=0119 011A=011B
011C=011D 011E=011F 0120=0121 0122=0123 0124=0125 0126=0127 0128=0129 012A=012B 012C=012D
012E=012F 0130=0069,0307 0132=0133 0134=0135 0136=0137 0139=013A 013B=013C 013D=013E 013F=0140
0141=0142 0143=0144 0145=0146 0147=0148 0149=02BC,006E 014A=014B 014C=014D 014E=014F 0150=0151
0152=0153 0154=0155 0156=0157 0158=0159 015A=015B 015C=015D 015E=015F 0160=0161 0162=0163
0164=0165 0166=0167 0168=0169 016A=016B 016C=016D 016E=016F 0170=0171 0172=0173 0174=0175
0176=0177 0178=00FF 0179=017A 017B=017C 017D=017E 017F=0073 01A0=01A1 01A2=01A3 01A4=01A5
01A6=0280 01A7=01A8 01A9=0283 01AC=01AD 01AE=0288 01AF=01B0 0345=03B9 0386=03AC 0388=03AD
0389=03AE 038A=03AF 038C=03CC 038E=03CD 038F=03CE 0390=03B9,0308,0301 0391=03B1 0392=03B2 0393=03B3
0394=03B4 0395=03B5 0396=03B6 0397=03B7 0398=03B8 0399=03B9 039A=03BA 039B=03BB 039C=03BC
039D=03BD 039E=03BE 039F=03BF 03A0=03C0 03A1=03C1 03A3=03C3 03A4=03C4 03A5=03C5 03A6=03C6
03A7=03C7 03A8=03C8 03A9=03C9 03AA=03CA 03AB=03CB 03B0=03C5,0308,0301 03C2=03C3 1EA0=1EA1 1EA2=1EA3
1EA4=1EA5 1EA6=1EA7 1EA8=1EA9 1EAA=1EAB 1EAC=1EAD 1EAE=1EAF 1EB0=1EB1 1EB2=1EB3 1EB4=1EB5
1EB6=1EB7 1EB8=1EB9 1EBA=1EBB 1EBC=1EBD 1EBE=1EBF 1EC0=1EC1 1EC2=1EC3 1EC4=1EC5 1EC6=1EC7
1EC8=1EC9 1ECA=1ECB 1ECC=1ECD 1ECE=1ECF 1ED0=1ED1 1ED2=1ED3 1ED4=1ED5 1ED6=1ED7 1ED8=1ED9
1EDA=1EDB 1EDC=1EDD 1EDE=1EDF 1EE0=1EE1 1EE2=1EE3 1EE4=1EE5 1EE6=1EE7 1EE8=1EE9 1EEA=1EEB
1EEC=1EED 1EEE=1EEF 1EF0=1EF1 1EF2=1EF3 1EF4=1EF5 1EF6=1EF7 1EF8=1EF9`

// far: numbers that, added to a value of the table, come to none that stands there, but to one that is the same once it is cut down to fewer bits.
var far = []int{
	1 << 13, -1 << 13, 1 << 16, -1 << 16, 1 << 20, 1 << 21, -1 << 21, 1 << 24, 1 << 31, -1 << 31, 1 << 32, -1 << 32, 1<<32 + 1<<16, 1 << 48, -1 << 48,
	1 << 62, math.MinInt,
}

// bad: numbers that are no values.
var bad = []int{
	-1, -2, -0x41, -0x5A, -0xDF, -0x130, -0x1EA0, -0xBF, -0x9F, -1<<8 + 0x41, -1<<16 + 0x41, -1<<32 + 0xDF, math.MinInt32, math.MinInt, math.MinInt + 0x41,
	math.MinInt + 0xDF, 0x110000, 0x110041, 1<<21 + 0x41, 1<<31 - 1, 1<<32 + 0x41, 1<<32 + 0x390, 1 << 62, 1<<62 + 0xDF, math.MaxInt - 1, math.MaxInt,
}

// number reads a number of the table.
func number(t *testing.T, s string) int {
	n, err := strconv.ParseInt(s, 16, 64)
	if err != nil {
		t.Fatal(err)
	}
	return int(n)
}

// read tells what each value of the table becomes.
func read(t *testing.T) map[int][]int {
	all := map[int][]int{}
	for _, row := range strings.Fields(table) {
		value, values, _ := strings.Cut(row, "=")
		r := number(t, value)
		if _, twice := all[r]; twice {
			t.Fatalf("%04X stands twice in the table", r)
		}
		for _, s := range strings.Split(values, ",") {
			all[r] = append(all[r], number(t, s))
		}
	}
	return all
}

// each ranges over all values, and many numbers on both sides of them.
func each(yield func(int) bool) {
	for r := -0x30000; r < 0x330000; r++ {
		if !yield(r) {
			return
		}
	}
	for _, r := range bad {
		if !yield(r) {
			return
		}
	}
}

// want is what r becomes by the table.
func want(table map[int][]int, r int) []int {
	if l, stands := table[r]; stands {
		return l
	}
	return []int{r}
}

// wantAll is what some become by it, one behind the other.
func wantAll(table map[int][]int, l []int) []int {
	var all []int
	for _, r := range l {
		all = append(all, want(table, r)...)
	}
	return all
}

// mixed tells lists of values that become one, several and themselves, and of numbers that are no values.
func mixed() [][]int {
	return [][]int{
		nil, {}, {0}, {'a'}, {'A'}, {0xDF}, {0x390}, {-1}, {math.MaxInt}, {'A', 'B'}, {'B', 'A'}, {'A', 'A', 'A'}, {'a', 'A', 'a'}, {'A', 0xDF, 'b'},
		{0xDF, 0xDF}, {0x390, 0x3B0, 0x149, 0x130, 0xDF}, {0x130, 'I', 0x307}, {'s', 0xDF, 's', 0x17F}, {0, 0, 0}, {0, 'A', 0}, {0x390, 0, 0x3B0},
		{'H', 0xC9, 'L', 'O', ' ', 0x3A3, 0x3C2, 0x1F600}, {0xAC00, 0xD800, 0xFFFD, 0x10FFFF, 0x110000}, bad,
	}
}

// P6.1

func TestFold(t *testing.T) {
	all := read(t)
	for r := range each {
		if l := casing.Fold(r); !slices.Equal(l, want(all, r)) {
			t.Fatalf("Fold(%#x) = %#x; want %#x", r, l, want(all, r))
		}
	}
}

func TestFoldFarOff(t *testing.T) {
	for r := range read(t) {
		for _, d := range far {
			if l := casing.Fold(r + d); !slices.Equal(l, []int{r + d}) {
				t.Fatalf("Fold(%#x) = %#x", r+d, l)
			}
		}
		if l := casing.Fold(-r); !slices.Equal(l, []int{-r}) {
			t.Fatalf("Fold(%#x) = %#x", -r, l)
		}
	}
}

func TestByHand(t *testing.T) {
	for _, x := range []struct {
		r    int
		fold []int
	}{
		{'A', []int{'a'}}, {'M', []int{'m'}}, {'Z', []int{'z'}}, {0xB5, []int{0x3BC}}, {0xC0, []int{0xE0}}, {0xC9, []int{0xE9}}, {0xD6, []int{0xF6}},
		{0xD8, []int{0xF8}}, {0xDE, []int{0xFE}}, {0xDF, []int{'s', 's'}}, {0x100, []int{0x101}}, {0x12E, []int{0x12F}}, {0x130, []int{'i', 0x307}},
		{0x132, []int{0x133}}, {0x136, []int{0x137}}, {0x139, []int{0x13A}}, {0x147, []int{0x148}}, {0x149, []int{0x2BC, 'n'}}, {0x14A, []int{0x14B}},
		{0x176, []int{0x177}}, {0x178, []int{0xFF}}, {0x179, []int{0x17A}}, {0x17D, []int{0x17E}}, {0x17F, []int{'s'}}, {0x1A0, []int{0x1A1}},
		{0x1A6, []int{0x280}}, {0x1A7, []int{0x1A8}}, {0x1A9, []int{0x283}}, {0x1AE, []int{0x288}}, {0x1AF, []int{0x1B0}}, {0x345, []int{0x3B9}},
		{0x386, []int{0x3AC}}, {0x38C, []int{0x3CC}}, {0x38E, []int{0x3CD}}, {0x390, []int{0x3B9, 0x308, 0x301}}, {0x391, []int{0x3B1}},
		{0x3A1, []int{0x3C1}}, {0x3A3, []int{0x3C3}}, {0x3AB, []int{0x3CB}}, {0x3B0, []int{0x3C5, 0x308, 0x301}}, {0x3C2, []int{0x3C3}},
		{0x1EA0, []int{0x1EA1}}, {0x1EF8, []int{0x1EF9}},
	} {
		if l := casing.Fold(x.r); !slices.Equal(l, x.fold) {
			t.Errorf("Fold(%#x) = %#x; want %#x", x.r, l, x.fold)
		}
	}
}

func TestThemselvesByHand(t *testing.T) {
	for _, r := range []int{
		0, 1, ' ', '0', '@', '[', '`', 'a', 'z', '{', 0x9F, 0xAA, 0xB4, 0xB6, 0xBF, 0xD7, 0xE0, 0xF7, 0xFF, 0x101, 0x131, 0x133, 0x138, 0x13A, 0x148, 0x14B,
		0x177, 0x17A, 0x17E, 0x180, 0x19F, 0x1A1, 0x1A8, 0x1AA, 0x1AB, 0x1AD, 0x1B0, 0x1B1, 0x241, 0x280, 0x300, 0x301, 0x344, 0x346, 0x385, 0x387, 0x38B,
		0x38D, 0x3A2, 0x3AC, 0x3AF, 0x3B1, 0x3C3, 0x3CE, 0x3CF, 0x441, 0x1E41, 0x1E9F, 0x1EA1, 0x1EF9, 0x1EFA, 0x1F41, 0x2041, 0xAC00, 0xD7A3, 0xD800, 0xDFFF,
		0xFFFD, 0x10041, 0x10FFFF, 0x110000, -1, math.MinInt, math.MaxInt,
	} {
		if l := casing.Fold(r); !slices.Equal(l, []int{r}) {
			t.Errorf("Fold(%#x) = %#x", r, l)
		}
	}
}

func TestAll(t *testing.T) {
	all := read(t)
	for _, l := range mixed() {
		if got := casing.All(l); !slices.Equal(got, wantAll(all, l)) {
			t.Errorf("All(%#x) = %#x; want %#x", l, got, wantAll(all, l))
		}
	}
}

func TestAllOfOne(t *testing.T) {
	all := read(t)
	for r := range 0x20000 {
		if l := casing.All([]int{r}); !slices.Equal(l, want(all, r)) {
			t.Fatalf("All of %#x alone is %#x; want %#x", r, l, want(all, r))
		}
	}
}

func TestAllOfMany(t *testing.T) {
	all := read(t)
	var l []int
	for r := range each {
		l = append(l, r)
	}
	got, wanted := casing.All(l), wantAll(all, l)
	if !slices.Equal(got, wanted) {
		t.Fatalf("of all values, %d of them, All tells %d; want %d others", len(l), len(got), len(wanted))
	}
}

// One behind the other: a list that is cut becomes what its two ends become.
func TestAllOfCutLists(t *testing.T) {
	for _, a := range mixed() {
		for _, b := range mixed() {
			l := slices.Concat(a, b)
			if got, ends := casing.All(l), slices.Concat(casing.All(a), casing.All(b)); !slices.Equal(got, ends) {
				t.Fatalf("All(%#x) = %#x; its ends become %#x", l, got, ends)
			}
		}
	}
}

// R6: what stands in none of the rows becomes itself, whatever Unicode says of it.
func TestWhatUnicodeAlonePutsThere(t *testing.T) {
	for _, r := range []int{
		0x181, 0x1C4, 0x1CD, 0x1F0, 0x1F8, 0x200, 0x23A, 0x370, 0x37F, 0x3CF, 0x3D0, 0x3D8, 0x3F4, 0x3F9, 0x400, 0x410, 0x42F, 0x460, 0x531, 0x587, 0x10A0,
		0x13F8, 0x1C80, 0x1C90, 0x1E00, 0x1E96, 0x1E9B, 0x1E9E, 0x1EFA, 0x1EFE, 0x1F08, 0x1F80, 0x2126, 0x212A, 0x212B, 0x2160, 0x24B6, 0x2C00, 0xA640,
		0xAB70, 0xFB00, 0xFB03, 0xFB13, 0xFF21, 0xFF3A, 0x10400, 0x118A0, 0x1E900,
	} {
		if l := casing.Fold(r); !slices.Equal(l, []int{r}) {
			t.Errorf("Fold(%#x) = %#x", r, l)
		}
	}
}

// P6.2

func TestFoldedOnce(t *testing.T) {
	for r := range each {
		once := casing.Fold(r)
		for _, x := range once {
			if l := casing.Fold(x); !slices.Equal(l, []int{x}) {
				t.Fatalf("%#x becomes %#x, of which %#x becomes %#x", r, once, x, l)
			}
		}
	}
	for _, l := range mixed() {
		once := casing.All(l)
		if twice := casing.All(once); !slices.Equal(twice, once) {
			t.Errorf("%#x becomes %#x, and this %#x", l, once, twice)
		}
	}
}

// Nothing is kept: who changes an answer changes no other one, made before or after it, nor what was handed in.
func TestAnswersApart(t *testing.T) {
	table := read(t)
	for _, l := range append(mixed(), []int{'x', 'y'}) {
		in := slices.Clone(l)
		first, second := casing.All(in), casing.All(in)
		clear(first[:cap(first)])
		third := casing.All(in)
		if wanted := wantAll(table, l); !slices.Equal(in, l) || !slices.Equal(second, wanted) || !slices.Equal(third, wanted) {
			t.Fatalf("once an answer of All(%#x) was changed, others are %#x and %#x, and it was handed in %#x", l, second, third, in)
		}
	}
	for r, wanted := range table {
		first, second := casing.Fold(r), casing.Fold(r)
		clear(first[:cap(first)])
		if third := casing.Fold(r); !slices.Equal(second, wanted) || !slices.Equal(third, wanted) {
			t.Fatalf("once an answer of Fold(%#x) was changed, others are %#x and %#x", r, second, third)
		}
	}
}

// Nothing is kept: the calls of several that go at once are as those of one, and the wrong ones leave nothing behind.
func TestCallsAtOnce(t *testing.T) {
	var all sync.WaitGroup
	for range 8 {
		all.Go(func() {
			for _, r := range bad {
				casing.Fold(r)
				casing.All([]int{r, 'A', r})
				if l, m := casing.Fold(0x149), casing.All([]int{'A', 0xDF}); !slices.Equal(l, []int{0x2BC, 'n'}) || !slices.Equal(m, []int{'a', 's', 's'}) {
					t.Errorf("behind %#x, 0149 becomes %#x, and 0041 00DF %#x", r, l, m)
					return
				}
			}
		})
	}
	all.Wait()
}
