package dec_test

import (
	"math"
	"slices"
	"strings"
	"sync"
	"testing"

	"pentrough/api"
	"pentrough/dec"
	"pentrough/sample"
)

// numbers that are no scalar values; some of them would be one if they were cut down to 32 or 21 bits.
var bad = []int{
	-1, -65, math.MinInt, math.MinInt32, 0xD800, 0xD801, 0xDBFF, 0xDC00, 0xDFFE, 0xDFFF,
	0x110000, 0x110001, 0x200041, math.MaxInt32, math.MaxUint32, 1 << 32, 1<<32 + 'A', -1<<32 + 'A', 1 << 62, math.MaxInt,
}

// the first and the last values of each length of form, and those beside the gap.
var good = []int{
	0, 1, 'A', 0x7F, 0x80, 0xE9, 0x7FF, 0x800, 0xFFF, 0x1000, 0x20AC, 0xCFFF, 0xD000, 0xD7FF, 0xE000,
	0xFFFC, 0xFFFD, 0xFFFE, 0xFFFF, 0x10000, 0x1F600, 0x3FFFF, 0x40000, 0xFFFFF, 0x100000, 0x10FFFE, 0x10FFFF,
}

// bytes beside which something changes.
var edges = []byte{
	0x00, 0x41, 0x7F, 0x80, 0x8F, 0x90, 0x9F, 0xA0, 0xBF, 0xC0, 0xC1, 0xC2, 0xDF, 0xE0, 0xE1, 0xE2, 0xEC,
	0xED, 0xEE, 0xEF, 0xF0, 0xF1, 0xF3, 0xF4, 0xF5, 0xF7, 0xF8, 0xFE, 0xFF,
}

// states that are not Sane: forms, more than a form, too long forms, halves, too great values, what begins with no form.
var insane = []string{
	"a", "\x00", "\x7f", "\x80", "\xbf", "\xc0", "\xc1", "\xf5", "\xf8", "\xff", "ab", "abc\xc3", "\xc3a", "\xc3\xa9", "\xc3\xc3",
	"\xe0\x80", "\xe0\x9f", "\xed\xa0", "\xed\xbf", "\xf0\x80", "\xf0\x8f", "\xf4\x90", "\xf4\xbf", "\xe2a", "\xe2\xe2",
	"\xe2\x82\xac", "\xe2\x82a", "\xef\xbf\xbd", "\xf0\x9f\x98\x80", "\xf0\x9f\x98a", "\xf0\x9fa", "\xe2\x82\xac\xe2",
	"\xc0\x80", "\xf0\x9f\x98\x80\xf0", strings.Repeat("\xe2\x82", 1000),
}

// scalar is the document's word: 0 to 10FFFF, but D800 to DFFF.
func scalar(r int) bool { return r >= 0 && r < 0xD800 || r > 0xDFFF && r <= 0x10FFFF }

// form is the document's sum for the form of a scalar value.
func form(r int) string {
	switch {
	case r < 0x80:
		return string([]byte{byte(r)})
	case r < 0x800:
		return string([]byte{byte(0xC0 + r/0x40), byte(0x80 + r%0x40)})
	case r < 0x10000:
		return string([]byte{byte(0xE0 + r/0x1000), byte(0x80 + r/0x40%0x40), byte(0x80 + r%0x40)})
	}
	return string([]byte{byte(0xF0 + r/0x40000), byte(0x80 + r/0x1000%0x40), byte(0x80 + r/0x40%0x40), byte(0x80 + r%0x40)})
}

type allForms struct {
	forms      map[string]int
	beginnings map[string]bool
}

// known gathers the form of every scalar value, and what these begin with.
var known = sync.OnceValue(func() allForms {
	k := allForms{map[string]int{}, map[string]bool{}}
	for r := range 0x110000 {
		if !scalar(r) {
			continue
		}
		f := form(r)
		k.forms[f] = r
		for n := 1; n < len(f); n++ {
			k.beginnings[f[:n]] = true
		}
	}
	return k
})

// feed is P1.2 to the letter, by looking up.
func feed(b string, c byte) (string, []int) {
	if !known().beginnings[b] {
		b = ""
	}
	x := b + string([]byte{c})
	if r, ok := known().forms[x]; ok {
		return "", []int{r}
	}
	if known().beginnings[x] {
		return x, nil
	}
	if b == "" {
		return "", []int{0xFFFD}
	}
	left, told := feed("", c)
	return left, append([]int{0xFFFD}, told...)
}

// all is P1.3 to the letter.
func all(b string) []int {
	var s string
	var l, told []int
	for k := range len(b) {
		s, told = feed(s, b[k])
		l = append(l, told...)
	}
	if s != "" {
		l = append(l, 0xFFFD)
	}
	return l
}

// after is the bytes that are tried behind a beginning: all of them, but of the many that have three bytes the edges alone.
func after(b string) []byte {
	if len(b) == 3 {
		return edges
	}
	return sample.Bytes()
}

// P1.1

func TestGood(t *testing.T) {
	for r := -1000; r < 0x120000; r++ {
		if dec.Good(r) != scalar(r) {
			t.Fatalf("Good(%#x) = %v", r, !scalar(r))
		}
	}
	for _, r := range good {
		if !dec.Good(r) {
			t.Errorf("Good(%#x) = false", r)
		}
	}
	for _, r := range bad {
		if dec.Good(r) {
			t.Errorf("Good(%#x) = true", r)
		}
	}
}

func TestSaneOfBeginnings(t *testing.T) {
	if !dec.Sane(dec.State{}) {
		t.Error("State{} is not Sane")
	}
	for b := range known().beginnings {
		if !dec.Sane(dec.State{B: b}) {
			t.Errorf("Sane(%q) = false", b)
		}
		for _, c := range after(b) {
			x := b + string([]byte{c})
			if dec.Sane(dec.State{B: x}) != known().beginnings[x] {
				t.Fatalf("Sane(%q) = %v", x, !known().beginnings[x])
			}
		}
	}
}

func TestSaneOfOthers(t *testing.T) {
	for _, b := range insane {
		if dec.Sane(dec.State{B: b}) {
			t.Errorf("Sane(%q) = true", b)
		}
	}
	for b := range sample.Lists(edges, 4) {
		if dec.Sane(dec.State{B: string(b)}) != (len(b) == 0 || known().beginnings[string(b)]) {
			t.Fatalf("Sane(%q) is wrong", b)
		}
	}
}

// P1.2

func TestFeedOfSaneStates(t *testing.T) {
	check := func(b string) {
		for _, c := range after(b) {
			s, l := dec.Feed(dec.State{B: b}, c)
			left, told := feed(b, c)
			if s.B != left || !slices.Equal(l, told) {
				t.Fatalf("Feed(%q, %#x) = %q, %x; want %q, %x", b, c, s.B, l, left, told)
			}
		}
	}
	check("")
	for b := range known().beginnings {
		check(b)
	}
}

func TestFeedOfOtherStates(t *testing.T) {
	for _, b := range insane {
		for c := range 256 {
			s, l := dec.Feed(dec.State{B: b}, byte(c))
			left, told := dec.Feed(dec.State{}, byte(c))
			if s != left || !slices.Equal(l, told) {
				t.Fatalf("Feed(%q, %#x) = %q, %x; of State{} %q, %x", b, c, s.B, l, left.B, told)
			}
		}
	}
}

func TestFeedByHand(t *testing.T) {
	for _, x := range []struct {
		b    string
		c    byte
		left string
		told []int
	}{
		{"", 'a', "", []int{'a'}},
		{"", 0x00, "", []int{0}},
		{"", 0x7F, "", []int{0x7F}},
		{"", 0x80, "", []int{0xFFFD}},
		{"", 0xBF, "", []int{0xFFFD}},
		{"", 0xC1, "", []int{0xFFFD}},
		{"", 0xC2, "\xc2", nil},
		{"", 0xF4, "\xf4", nil},
		{"", 0xF5, "", []int{0xFFFD}},
		{"\xc2", 0x80, "", []int{0x80}},
		{"\xc2", 0xC2, "\xc2", []int{0xFFFD}},
		{"\xe0", 0x9F, "", []int{0xFFFD, 0xFFFD}},
		{"\xe0", 0xA0, "\xe0\xa0", nil},
		{"\xed", 0x9F, "\xed\x9f", nil},
		{"\xed", 0xA0, "", []int{0xFFFD, 0xFFFD}},
		{"\xef\xbf", 0xBD, "", []int{0xFFFD}},
		{"\xf0", 0x8F, "", []int{0xFFFD, 0xFFFD}},
		{"\xf0", 0x90, "\xf0\x90", nil},
		{"\xf4", 0x8F, "\xf4\x8f", nil},
		{"\xf4", 0x90, "", []int{0xFFFD, 0xFFFD}},
		{"\xf4\x8f\xbf", 0xBF, "", []int{0x10FFFF}},
		{"\xf4\x8f\xbf", 0xF4, "\xf4", []int{0xFFFD}},
		{"\xf4\x8f\xbf", 'a', "", []int{0xFFFD, 'a'}},
		{"\xf4\x8f\xbf", 0xFF, "", []int{0xFFFD, 0xFFFD}},
		{"a", 'b', "", []int{'b'}},
		{"\xed\xa0", 0x80, "", []int{0xFFFD}},
		{"\xff", 0xE2, "\xe2", nil},
	} {
		s, l := dec.Feed(dec.State{B: x.b}, x.c)
		if s.B != x.left || !slices.Equal(l, x.told) {
			t.Errorf("Feed(%q, %#x) = %q, %x; want %q, %x", x.b, x.c, s.B, l, x.left, x.told)
		}
	}
}

func TestEnd(t *testing.T) {
	if l := dec.End(dec.State{}); len(l) != 0 {
		t.Errorf("End of nothing = %x", l)
	}
	for b := range known().beginnings {
		if l := dec.End(dec.State{B: b}); !slices.Equal(l, []int{0xFFFD}) {
			t.Fatalf("End(%q) = %x", b, l)
		}
	}
	for _, b := range insane {
		if l := dec.End(dec.State{B: b}); len(l) != 0 {
			t.Errorf("End(%q) = %x", b, l)
		}
	}
}

// P1.3

func TestAllByHand(t *testing.T) {
	for _, x := range []struct {
		text string
		want []int
	}{
		{"", nil},
		{"Hello", []int{'H', 'e', 'l', 'l', 'o'}},
		{"aé€😀", []int{'a', 0xE9, 0x20AC, 0x1F600}},
		{"\xe2\x82A", []int{0xFFFD, 'A'}},
		{"\xe2\x82\xac", []int{0x20AC}},
		{"\ufffd", []int{0xFFFD}},
		{"\xe2\x82", []int{0xFFFD}},
		{"a\xf0\x9f\x98", []int{'a', 0xFFFD}},
		{"\xf0\x9f\x98\xf0\x9f\x98\x80", []int{0xFFFD, 0x1F600}},
		{"\xc0\xaf", []int{0xFFFD, 0xFFFD}},
		{"\xe0\x80\xaf", []int{0xFFFD, 0xFFFD, 0xFFFD}},
		{"\xf0\x80\x80\xaf", []int{0xFFFD, 0xFFFD, 0xFFFD, 0xFFFD}},
		{"\xed\xa0\xbd\xed\xb8\x80", []int{0xFFFD, 0xFFFD, 0xFFFD, 0xFFFD, 0xFFFD, 0xFFFD}},
		{"\xed\x9f\xbf\xee\x80\x80", []int{0xD7FF, 0xE000}},
		{"\xf4\x8f\xbf\xbf", []int{0x10FFFF}},
		{"\xf4\x90\x80\x80", []int{0xFFFD, 0xFFFD, 0xFFFD, 0xFFFD}},
		{"\xc3\xc3\xa9", []int{0xFFFD, 0xE9}},
		{"\xe1\x80\xe2\xf0\x91\x92\xf1\xbfA", []int{0xFFFD, 0xFFFD, 0xFFFD, 0xFFFD, 'A'}},
		{"\x80\xbf", []int{0xFFFD, 0xFFFD}},
	} {
		if l := dec.All([]byte(x.text)); !slices.Equal(l, x.want) {
			t.Errorf("All(%q) = %x; want %x", x.text, l, x.want)
		}
	}
	if l := dec.All(nil); len(l) != 0 {
		t.Errorf("All(nil) = %x", l)
	}
}

func TestAllOfEdges(t *testing.T) {
	for b := range sample.Lists(edges, 4) {
		if l := dec.All(b); !slices.Equal(l, all(string(b))) {
			t.Fatalf("All(%q) = %x; want %x", b, l, all(string(b)))
		}
	}
}

func TestAllOfValidTextIsItsRunes(t *testing.T) {
	b := strings.Repeat("Grüße, κόσμε, 世界, 🙂\u0301\u034f\n", 1000)
	l := dec.All([]byte(b))
	var want []int
	for _, r := range b {
		want = append(want, int(r))
	}
	if !slices.Equal(l, want) {
		t.Errorf("All of a long text has %d values; want %d", len(l), len(want))
	}
}

func TestAllLeavesItsText(t *testing.T) {
	b := []byte("a\xe2\x82b\xf0\x9f\x98")
	keep := slices.Clone(b)
	dec.All(b)
	if !slices.Equal(b, keep) {
		t.Errorf("All changed its text: %q", b)
	}
}

func TestText(t *testing.T) {
	for r := range 0x110000 {
		want := "\xef\xbf\xbd"
		if scalar(r) {
			want = form(r)
		}
		if x := dec.Text([]int{r}); x != want {
			t.Fatalf("Text(%#x) = %q; want %q", r, x, want)
		}
	}
	for _, r := range bad {
		if x := dec.Text([]int{'a', r, 'b'}); x != "a\xef\xbf\xbdb" {
			t.Errorf("Text(61 %#x 62) = %q", r, x)
		}
	}
	if x := dec.Text(nil); x != "" {
		t.Errorf("Text(nil) = %q", x)
	}
	if x := dec.Text([]int{}); x != "" {
		t.Errorf("Text of no values = %q", x)
	}
	l := []int{-1, 'a', 0xD800}
	if x := dec.Text(l); x != "\ufffda\ufffd" || !slices.Equal(l, []int{-1, 'a', 0xD800}) {
		t.Errorf("Text = %q, and left %x", x, l)
	}
}

// P1.4

func TestWhatIsWrittenIsReadAgain(t *testing.T) {
	var l []int
	for r := range 0x110000 {
		if scalar(r) {
			l = append(l, r)
		}
	}
	if !slices.Equal(dec.All([]byte(dec.Text(l))), l) {
		t.Error("all scalar values, written and read, are others")
	}
	for _, a := range good {
		for _, b := range good {
			if x := dec.All([]byte(dec.Text([]int{a, b, a}))); !slices.Equal(x, []int{a, b, a}) {
				t.Errorf("%x %x %x is read as %x", a, b, a, x)
			}
		}
	}
}

func TestNoMoreValuesThanBytes(t *testing.T) {
	for b := range sample.Lists(edges, 4) {
		if l := dec.All(b); len(l) > len(b) {
			t.Fatalf("All(%q) = %x", b, l)
		}
	}
}

func TestThreeBytesAreLeftAtMost(t *testing.T) {
	most := 0
	check := func(b string) {
		for _, c := range after(b) {
			s, l := dec.Feed(dec.State{B: b}, c)
			if !dec.Sane(s) || len(s.B) > 3 {
				t.Fatalf("Feed(%q, %#x) leaves %q", b, c, s.B)
			}
			for _, r := range l {
				if !dec.Good(r) {
					t.Fatalf("Feed(%q, %#x) tells %x", b, c, l)
				}
			}
			most = max(most, len(s.B))
		}
	}
	for _, b := range insane {
		check(b)
	}
	for b := range known().beginnings {
		check(b)
	}
	if most != 3 {
		t.Errorf("at most %d bytes were left, and never 3", most)
	}
}

func TestReplIsTheGivenOne(t *testing.T) {
	if l := dec.All([]byte{0xFF}); !slices.Equal(l, []int{api.Repl}) {
		t.Errorf("All(FF) = %x", l)
	}
	if !dec.Good(api.MaxRune) || dec.Good(api.MaxRune+1) {
		t.Error("MaxRune is not the last scalar value")
	}
}
