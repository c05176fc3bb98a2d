package decomp_test

import (
	"math"
	"slices"
	"strconv"
	"strings"
	"sync"
	"testing"

	"pentrough/decomp"
)

// The document's table, to the letter.
const table = `
00A0=0020 00A8=0020,0308 00AA=0061 00AF=0020,0304 00B2=0032 00B3=0033 00B4=0020,0301 00B5=03BC 00B8=0020,0327
00B9=0031 00BA=006F 00BC=0031,2044,0034 00BD=0031,2044,0032 00BE=0033,2044,0034 00C0=0041,0300 00C1=0041,0301 00C2=0041,0302 00C3=0041,0303
00C4=0041,0308 00C5=0041,030A 00C7=0043,0327 00C8=0045,0300 00C9=0045,0301 00CA=0045,0302 00CB=0045,0308 00CC=0049,0300 00CD=0049,0301
00CE=0049,0302 00CF=0049,0308 00D1=004E,0303 00D2=004F,0300 00D3=004F,0301 00D4=004F,0302 00D5=004F,0303 00D6=004F,0308 00D9=0055,0300
00DA=0055,0301 00DB=0055,0302 00DC=0055,0308 00DD=0059,0301 00E0=0061,0300 00E1=0061,0301 00E2=0061,0302 00E3=0061,0303 00E4=0061,0308
00E5=0061,030A 00E7=0063,0327 00E8=0065,0300 00E9=0065,0301 00EA=0065,0302 00EB=0065,0308 00EC=0069,0300 00ED=0069,0301 00EE=0069,0302
00EF=0069,0308 00F1=006E,0303 00F2=006F,0300 00F3=006F,0301 00F4=006F,0302 00F5=006F,0303 00F6=006F,0308 00F9=0075,0300 00FA=0075,0301
00FB=0075,0302 00FC=0075,0308 00FD=0079,0301 00FF=0079,0308 0100=0041,0304 0101=0061,0304 0102=0041,0306 0103=0061,0306 0104=0041,0328
0105=0061,0328 0106=0043,0301 0107=0063,0301 0108=0043,0302 0109=0063,0302 010A=0043,0307 010B=0063,0307 010C=0043,030C 010D=0063,030C
010E=0044,030C 010F=0064,030C 0112=0045,0304 0113=0065,0304 0114=0045,0306 0115=0065,0306 0116=0045,0307 0117=0065,0307 0118=0045,0328
0119=0065,0328 011A=0045,030C 011B=0065,030C 011C=0047,0302 011D=0067,0302 011E=0047,0306 011F=0067,0306 0120=0047,0307 0121=0067,0307
0122=0047,0327 0123=0067,0327 0124=0048,0302 0125=0068,0302 0128=0049,0303 0129=0069,0303 012A=0049,0304 012B=0069,0304 012C=0049,0306
012D=0069,0306 012E=0049,0328 012F=0069,0328 0130=0049,0307 0132=0049,004A 0133=0069,006A 0134=004A,0302 0135=006A,0302 0136=004B,0327
0137=006B,0327 0139=004C,0301 013A=006C,0301 013B=004C,0327 013C=006C,0327 013D=004C,030C 013E=006C,030C 013F=004C,00B7 0140=006C,00B7
0143=004E,0301 0144=006E,0301 0145=004E,0327 0146=006E,0327 0147=004E,030C 0148=006E,030C 0149=02BC,006E 014C=004F,0304 014D=006F,0304
014E=004F,0306 014F=006F,0306 0150=004F,030B 0151=006F,030B 0154=0052,0301 0155=0072,0301 0156=0052,0327 0157=0072,0327 0158=0052,030C
0159=0072,030C 015A=0053,0301 015B=0073,0301 015C=0053,0302 015D=0073,0302 015E=0053,0327 015F=0073,0327 0160=0053,030C 0161=0073,030C
0162=0054,0327 0163=0074,0327 0164=0054,030C 0165=0074,030C 0168=0055,0303 0169=0075,0303 016A=0055,0304 016B=0075,0304 016C=0055,0306
016D=0075,0306 016E=0055,030A 016F=0075,030A 0170=0055,030B 0171=0075,030B 0172=0055,0328 0173=0075,0328 0174=0057,0302 0175=0077,0302
0176=0059,0302 0177=0079,0302 0178=0059,0308 0179=005A,0301 017A=007A,0301 017B=005A,0307 017C=007A,0307 017D=005A,030C 017E=007A,030C
017F=0073 01A0=004F,031B 01A1=006F,031B 01AF=0055,031B 01B0=0075,031B 0386=0391,0301 0387=00B7 0388=0395,0301 0389=0397,0301
038A=0399,0301 038C=039F,0301 038E=03A5,0301 038F=03A9,0301 0390=03B9,0308,0301 03AA=0399,0308 03AB=03A5,0308 03AC=03B1,0301 03AD=03B5,0301
03AE=03B7,0301 03AF=03B9,0301 03B0=03C5,0308,0301 03CA=03B9,0308 03CB=03C5,0308 03CC=03BF,0301 03CD=03C5,0301 03CE=03C9,0301 0958=0915,093C
0959=0916,093C 095A=0917,093C 1EA0=0041,0323 1EA1=0061,0323 1EA2=0041,0309 1EA3=0061,0309 1EA4=0041,0302,0301 1EA5=0061,0302,0301 1EA6=0041,0302,0300
1EA7=0061,0302,0300 1EA8=0041,0302,0309 1EA9=0061,0302,0309 1EAA=0041,0302,0303 1EAB=0061,0302,0303 1EAC=0041,0323,0302 1EAD=0061,0323,0302 1EAE=0041,0306,0301 1EAF=0061,0306,0301
1EB0=0041,0306,0300 1EB1=0061,0306,0300 1EB2=0041,0306,0309 1EB3=0061,0306,0309 1EB4=0041,0306,0303 1EB5=0061,0306,0303 1EB6=0041,0323,0306 1EB7=0061,0323,0306 1EB8=0045,0323
1EB9=0065,0323 1EBA=0045,0309 1EBB=0065,0309 1EBC=0045,0303 1EBD=0065,0303 1EBE=0045,0302,0301 1EBF=0065,0302,0301 1EC0=0045,0302,0300 1EC1=0065,0302,0300
1EC2=0045,0302,0309 1EC3=0065,0302,0309 1EC4=0045,0302,0303 1EC5=0065,0302,0303 1EC6=0045,0323,0302 1EC7=0065,0323,0302 1EC8=0049,0309 1EC9=0069,0309 1ECA=0049,0323
1ECB=0069,0323 1ECC=004F,0323 1ECD=006F,0323 1ECE=004F,0309 1ECF=006F,0309 1ED0=004F,0302,0301 1ED1=006F,0302,0301 1ED2=004F,0302,0300 1ED3=006F,0302,0300
1ED4=004F,0302,0309 1ED5=006F,0302,0309 1ED6=004F,0302,0303 1ED7=006F,0302,0303 1ED8=004F,0323,0302 1ED9=006F,0323,0302 1EDA=004F,031B,0301 1EDB=006F,031B,0301 1EDC=004F,031B,0300
1EDD=006F,031B,0300 1EDE=004F,031B,0309 1EDF=006F,031B,0309 1EE0=004F,031B,0303 1EE1=006F,031B,0303 1EE2=004F,031B,0323 1EE3=006F,031B,0323 1EE4=0055,0323 1EE5=0075,0323
1EE6=0055,0309 1EE7=0075,0309 1EE8=0055,031B,0301 1EE9=0075,031B,0301 1EEA=0055,031B,0300 1EEB=0075,031B,0300 1EEC=0055,031B,0309 1EED=0075,031B,0309 1EEE=0055,031B,0303
1EEF=0075,031B,0303 1EF0=0055,031B,0323 1EF1=0075,031B,0323 1EF2=0059,0300 1EF3=0079,0300 1EF4=0059,0323 1EF5=0079,0323 1EF6=0059,0309 1EF7=0079,0309
1EF8=0059,0303 1EF9=0079,0303 2126=03A9 2128=005A 212A=004B 212B=0041,030A 2160=0049 2161=0049,0049 2162=0049,0049,0049
2163=0049,0056 2164=0056 2165=0056,0049 2166=0056,0049,0049 2167=0056,0049,0049,0049 2168=0049,0058 2169=0058 216A=0058,0049 216B=0058,0049,0049
216C=004C 216D=0043 216E=0044 216F=004D 2170=0069 2171=0069,0069 2172=0069,0069,0069 2173=0069,0076 2174=0076
2175=0076,0069 2176=0076,0069,0069 2177=0076,0069,0069,0069 2178=0069,0078 2179=0078 217A=0078,0069 217B=0078,0069,0069 217C=006C 217D=0063
217E=0064 217F=006D 304C=304B,3099 304E=304D,3099 3050=304F,3099 3052=3051,3099 3054=3053,3099 3056=3055,3099 3058=3057,3099
305A=3059,3099 305C=305B,3099 305E=305D,3099 3060=305F,3099 3062=3061,3099 3065=3064,3099 3067=3066,3099 3069=3068,3099 3070=306F,3099
30AC=30AB,3099 30AE=30AD,3099 30B0=30AF,3099 30B2=30B1,3099 30B4=30B3,3099 30B6=30B5,3099 30B8=30B7,3099 30BA=30B9,3099 30BC=30BB,3099
30BE=30BD,3099 30C0=30BF,3099 30C2=30C1,3099 30C5=30C4,3099 30C7=30C6,3099 30C9=30C8,3099 30D0=30CF,3099 FB00=0066,0066 FB01=0066,0069
FB02=0066,006C FB03=0066,0066,0069 FB04=0066,0066,006C FB05=0073,0074 FB06=0073,0074`

// numbers that are no values; many of them would be made of something else if they were cut down to fewer bits.
var bad = []int{
	-1, -0xA0, -0xE9, -0xAC01, -0xFF21, -1<<16 + 0xE9, -1<<21 + 0xAC00, -1<<32 + 0xE9, -1<<32 + 0xFF21, -1<<63 + 0xE9,
	math.MinInt32, math.MinInt32 + 0xE9, math.MinInt, math.MinInt + 0xA0, math.MinInt + 0xAC00, math.MinInt + 1,
	0x110000, 0x1100E9, 0x110000 + 0xAC00, 0x11FF21, 0x200000, 0x2000E9, 0x200000 + 0xAC00, 0x20FF21, 0x1000000 + 0xE9,
	1<<31 + 0xE9, 1 << 32, 1<<32 + 0xA0, 1<<32 + 0xE9, 1<<32 + 0xAC00, 1<<32 + 0xFB06, 1<<32 + 0xFF21, 1<<48 + 0xE9,
	1 << 62, 1<<62 + 0xE9, math.MaxInt32, math.MaxUint32, math.MaxInt - 0xE9, math.MaxInt,
}

// number reads a number of the table.
func number(t *testing.T, s string) int {
	n, err := strconv.ParseInt(s, 16, 64)
	if err != nil {
		t.Fatal(err)
	}
	return int(n)
}

// read tells what each value of the table is made of.
func read(t *testing.T) map[int][]int {
	all := map[int][]int{}
	for _, row := range strings.Fields(table) {
		value, parts, _ := strings.Cut(row, "=")
		var l []int
		for _, part := range strings.Split(parts, ",") {
			l = append(l, number(t, part))
		}
		r := number(t, value)
		if _, twice := all[r]; twice {
			t.Fatalf("%04X stands twice in the table", r)
		}
		all[r] = l
	}
	return all
}

// parts tells what each value is made of that is made of something else: those of the table, Hangul's and the wide ones.
func parts(t *testing.T) map[int][]int {
	all := read(t)
	r := 0xAC00
	for lead := range 19 {
		for vowel := range 21 {
			all[r] = []int{0x1100 + lead, 0x1161 + vowel}
			for tail := range 27 {
				all[r+1+tail] = []int{0x1100 + lead, 0x1161 + vowel, 0x11A8 + tail}
			}
			r += 28
		}
	}
	for narrow := '!'; narrow <= '~'; narrow++ {
		all[0xFF01+int(narrow-'!')] = []int{int(narrow)}
	}
	return all
}

// each ranges over all values, and many numbers on both sides of them.
func each(yield func(int) bool) {
	for r := -0x30000; r < 0x330000; r++ {
		if !yield(r) {
			return
		}
	}
	for _, r := range bad {
		if !yield(r) {
			return
		}
	}
}

// P4.1

func TestFull(t *testing.T) {
	all := parts(t)
	for r := range each {
		want, other := all[r]
		if !other {
			want = []int{r}
		}
		if l := decomp.Full(r); !slices.Equal(l, want) {
			t.Fatalf("Full(%#x) = %#x; want %#x", r, l, want)
		}
	}
}

func TestIs(t *testing.T) {
	all := parts(t)
	for r := range each {
		if _, other := all[r]; decomp.Is(r) != other {
			t.Fatalf("Is(%#x) = %v", r, decomp.Is(r))
		}
	}
}

func TestByHand(t *testing.T) {
	for _, x := range []struct {
		r    int
		full []int
	}{
		{0, []int{0}}, {'a', []int{'a'}}, {0x9F, []int{0x9F}}, {0xA0, []int{' '}}, {0xA1, []int{0xA1}},
		{0xA8, []int{' ', 0x308}}, {0xB5, []int{0x3BC}}, {0xBC, []int{'1', 0x2044, '4'}}, {0xC0, []int{'A', 0x300}},
		{0xC6, []int{0xC6}}, {0xD7, []int{0xD7}}, {0xDF, []int{0xDF}}, {0xE9, []int{'e', 0x301}}, {0x132, []int{'I', 'J'}},
		{0x149, []int{0x2BC, 'n'}}, {0x17F, []int{'s'}}, {0x301, []int{0x301}}, {0x387, []int{0xB7}},
		{0x390, []int{0x3B9, 0x308, 0x301}}, {0x958, []int{0x915, 0x93C}}, {0x1100, []int{0x1100}}, {0x1EAD, []int{'a', 0x323, 0x302}},
		{0x2126, []int{0x3A9}}, {0x212B, []int{'A', 0x30A}}, {0x2167, []int{'V', 'I', 'I', 'I'}}, {0x2177, []int{'v', 'i', 'i', 'i'}},
		{0x304C, []int{0x304B, 0x3099}}, {0x30D0, []int{0x30CF, 0x3099}}, {0xABFF, []int{0xABFF}}, {0xAC00, []int{0x1100, 0x1161}},
		{0xAC01, []int{0x1100, 0x1161, 0x11A8}}, {0xAC1B, []int{0x1100, 0x1161, 0x11C2}}, {0xAC1C, []int{0x1100, 0x1162}},
		{0xAE4B, []int{0x1100, 0x1175, 0x11C2}}, {0xAE4C, []int{0x1101, 0x1161}}, {0xD788, []int{0x1112, 0x1175}},
		{0xD7A3, []int{0x1112, 0x1175, 0x11C2}}, {0xD7A4, []int{0xD7A4}}, {0xD800, []int{0xD800}}, {0xFAFF, []int{0xFAFF}},
		{0xFB00, []int{'f', 'f'}}, {0xFB03, []int{'f', 'f', 'i'}}, {0xFB06, []int{'s', 't'}}, {0xFB07, []int{0xFB07}},
		{0xFF00, []int{0xFF00}}, {0xFF01, []int{'!'}}, {0xFF21, []int{'A'}}, {0xFF5E, []int{'~'}}, {0xFF5F, []int{0xFF5F}},
		{0x100E9, []int{0x100E9}}, {0x10FFFF, []int{0x10FFFF}}, {0x110000, []int{0x110000}}, {-1, []int{-1}},
		{math.MinInt, []int{math.MinInt}}, {math.MaxInt, []int{math.MaxInt}},
	} {
		if l := decomp.Full(x.r); !slices.Equal(l, x.full) || decomp.Is(x.r) == slices.Equal(x.full, []int{x.r}) {
			t.Errorf("Full(%#x) = %#x, Is = %v; it is made of %#x", x.r, l, decomp.Is(x.r), x.full)
		}
	}
}

// R6: what stands in none of the rows is made of itself, whatever Unicode says of it.

func TestWhatUnicodeAlonePutsThere(t *testing.T) {
	for _, r := range []int{
		0x1C4, 0x1CD, 0x226, 0x2B0, 0x340, 0x344, 0x37E, 0x400, 0x622, 0x95B, 0x9DC, 0xE33, 0x1E00, 0x1F00, 0x2003, 0x2026,
		0x2070, 0x2100, 0x2122, 0x2153, 0x2460, 0x3000, 0x309B, 0x3071, 0x30D1, 0x3131, 0xF900, 0xFB1D, 0xFE30, 0xFF61,
		0xFFA0, 0xFFE0, 0x1D15E, 0x1D400, 0x1F100, 0x2F800,
	} {
		if l := decomp.Full(r); decomp.Is(r) || !slices.Equal(l, []int{r}) {
			t.Errorf("Full(%#x) = %#x, Is = %v", r, l, decomp.Is(r))
		}
	}
}

// P4.2

func TestPartsAreMadeOfNothingElse(t *testing.T) {
	for r := range each {
		l := decomp.Full(r)
		if len(l) == 0 {
			t.Fatalf("%#x is made of nothing", r)
		}
		for _, part := range l {
			if decomp.Is(part) || !slices.Equal(decomp.Full(part), []int{part}) {
				t.Fatalf("%#x is made of %#x, of which %#x is made of %#x", r, l, part, decomp.Full(part))
			}
		}
	}
}

// Nothing is kept: who changes an answer changes no other one, made before or after it.
func TestAnswersApart(t *testing.T) {
	for r, want := range parts(t) {
		first, second := decomp.Full(r), decomp.Full(r)
		clear(first[:cap(first)])
		if third := decomp.Full(r); !slices.Equal(second, want) || !slices.Equal(third, want) {
			t.Fatalf("once an answer of Full(%#x) was changed, others are %#x and %#x", r, second, third)
		}
	}
}

// Nothing is kept: the calls of several that go at once are as those of one, and the wrong ones leave nothing behind.
func TestCallsAtOnce(t *testing.T) {
	var all sync.WaitGroup
	for range 8 {
		all.Go(func() {
			for _, r := range bad {
				decomp.Full(r)
				decomp.Is(r)
				for range 100 {
					if !slices.Equal(decomp.Full(0xE9), []int{'e', 0x301}) || !decomp.Is(0xAC01) || decomp.Is('a') {
						t.Errorf("behind %#x, what 00E9, AC01 or 0061 is made of is another", r)
						return
					}
				}
			}
		})
	}
	all.Wait()
}
