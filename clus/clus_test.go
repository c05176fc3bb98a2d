package clus_test

import (
	"math"
	"regexp"
	"slices"
	"strings"
	"sync"
	"testing"

	"pentrough/clus"
	"pentrough/prop"
	"pentrough/sample"
)

// bad: numbers that are no values, and so have no kind; many would have one once they are cut down to fewer bits.
var bad = append(sample.Bad(), -'\r', -0x200D, -1<<16+0x200D, -1<<32+'\n', math.MinInt+0x1F600, math.MinInt+'\r', 1<<21+0x1F1E6, 1<<31+0x600, 1<<32+'\r', 1<<32+'\n', 1<<32+0x200D, 1<<32+0x1F600, 1<<32+0xAC00, 1<<62+0x1100)

// A placed State has its sign ahead: that of its Kind, with + behind it where it has Pict or Odd; nothing without On.
type placed struct {
	sign string
	s    clus.State
}

// sane tells the States that may be, written out.
func sane() []placed {
	return []placed{
		{"", clus.State{}},
		{"o", clus.State{On: true, Kind: 0}}, {"R", clus.State{On: true, Kind: 1}}, {"N", clus.State{On: true, Kind: 2}}, {"c", clus.State{On: true, Kind: 3}},
		{"e", clus.State{On: true, Kind: 4}}, {"e+", clus.State{On: true, Kind: 4, Pict: true}}, {"z", clus.State{On: true, Kind: 5}}, {"z+", clus.State{On: true, Kind: 5, Pict: true}},
		{"i", clus.State{On: true, Kind: 6}}, {"i+", clus.State{On: true, Kind: 6, Odd: true}}, {"p", clus.State{On: true, Kind: 7}}, {"s", clus.State{On: true, Kind: 8}},
		{"L", clus.State{On: true, Kind: 9}}, {"V", clus.State{On: true, Kind: 10}}, {"T", clus.State{On: true, Kind: 11}}, {"v", clus.State{On: true, Kind: 12}}, {"t", clus.State{On: true, Kind: 13}},
		{"x+", clus.State{On: true, Kind: 14, Pict: true}},
	}
}

// What kind a value is of is asked of prop; what is made of it is told anew here, as near to the document's words as may be.

func wantSane(s clus.State) bool {
	return 0 <= s.Kind && s.Kind <= 14 &&
		(s.On || s.Kind == 0 && !s.Pict && !s.Odd) &&
		(!s.Pict || s.Kind == prop.Pict || s.Kind == prop.Extend || s.Kind == prop.ZWJ) &&
		(s.Kind != prop.Pict || s.Pict) &&
		(!s.Odd || s.Kind == prop.RI)
}

// wantEnds goes over the rules in the document's order; it is handed a kind.
func wantEnds(s clus.State, k int) bool {
	if !wantSane(s) {
		s = clus.State{}
	}
	ahead := func(kinds ...int) bool { return slices.Contains(kinds, s.Kind) }
	behind := func(kinds ...int) bool { return slices.Contains(kinds, k) }
	for _, rule := range []struct{ so, ends bool }{
		{!s.On, false},
		{ahead(prop.CR) && behind(prop.LF), false},
		{ahead(prop.CR, prop.LF, prop.Control) || behind(prop.CR, prop.LF, prop.Control), true},
		{ahead(prop.L) && behind(prop.L, prop.V, prop.LV, prop.LVT), false},
		{ahead(prop.V, prop.LV) && behind(prop.V, prop.T), false},
		{ahead(prop.T, prop.LVT) && behind(prop.T), false},
		{behind(prop.Extend, prop.ZWJ, prop.Spacing), false},
		{ahead(prop.Prepend), false},
		{ahead(prop.ZWJ) && s.Pict && behind(prop.Pict), false},
		{ahead(prop.RI) && s.Odd && behind(prop.RI), false},
	} {
		if rule.so {
			return rule.ends
		}
	}
	return true
}

func wantNext(s clus.State, k int) clus.State {
	if !wantSane(s) {
		s = clus.State{}
	}
	next := clus.State{On: true, Kind: k}
	if k == prop.Pict {
		next.Pict = true
	}
	if (k == prop.Extend || k == prop.ZWJ) && s.Pict && s.Kind != prop.ZWJ {
		next.Pict = true
	}
	if k == prop.RI && !s.Odd {
		next.Odd = true
	}
	return next
}

func wantCuts(l []int) []bool {
	var s clus.State
	var cuts []bool
	for _, r := range l {
		cuts = append(cuts, wantEnds(s, prop.Gcb(r)))
		s = wantNext(s, prop.Gcb(r))
	}
	return cuts
}

// cluster is the form of one, said without any State: the longest beginning of a row of signs that is of it is a cluster, and so on behind it.
var cluster = func() *regexp.Regexp {
	e := regexp.MustCompile(`^(RN|[RNc]|p*(L*(V+|vV*|t)T*|L+|T+|ii|x(e*zx)*|[^RNc])[ezs]*)`)
	e.Longest()
	return e
}()

// formCuts tells where clusters end by their form.
func formCuts(l []int) []bool {
	left := sample.Signs(l)
	var cuts []bool
	for len(left) > 0 {
		n := len(cluster.FindString(left))
		cuts = append(cuts, len(cuts) > 0)
		cuts = append(cuts, make([]bool, n-1)...)
		left = left[n:]
	}
	return cuts
}

// told tells a row of signs with a bar where what came ends.
func told(l []int, cuts []bool) string {
	if len(l) != len(cuts) {
		return "of another length"
	}
	var all strings.Builder
	signs := sample.Signs(l)
	for k, cut := range cuts {
		if cut {
			all.WriteByte('|')
		}
		all.WriteByte(signs[k])
	}
	return all.String()
}

// checkState holds the calls that are handed a State, at one.
func checkState(t *testing.T, s clus.State, values ...int) {
	t.Helper()
	if sane, want := clus.Sane(s), wantSane(s); sane != want {
		t.Fatalf("Sane(%+v) = %v; want %v", s, sane, want)
	}
	for _, r := range values {
		k := prop.Gcb(r)
		if ends, want := clus.Ends(s, r), wantEnds(s, k); ends != want {
			t.Fatalf("Ends(%+v, %#x) = %v; want %v", s, r, ends, want)
		}
		next := clus.Next(s, r)
		if want := wantNext(s, k); next != want {
			t.Fatalf("Next(%+v, %#x) = %+v; want %+v", s, r, next, want)
		}
		if !clus.Sane(next) {
			t.Fatalf("Next(%+v, %#x) = %+v, which is not Sane", s, r, next)
		}
	}
}

// checkCuts holds Cuts at one list: against the rules, against the form of clusters, and against Ends and Next of each.
func checkCuts(t *testing.T, l []int) {
	t.Helper()
	cuts := clus.Cuts(l)
	if want := wantCuts(l); !slices.Equal(cuts, want) {
		t.Fatalf("Cuts(%#x) are %s; want %s", l, told(l, cuts), told(l, want))
	}
	if form := formCuts(l); !slices.Equal(cuts, form) {
		t.Fatalf("Cuts(%#x) are %s; the form of clusters tells %s", l, told(l, cuts), told(l, form))
	}
	var s clus.State
	for k, r := range l {
		if ends := clus.Ends(s, r); ends != cuts[k] {
			t.Fatalf("Ends(%+v, %#x) = %v; Cuts(%#x) are %s", s, r, ends, l, told(l, cuts))
		}
		s = clus.Next(s, r)
	}
}

// P11.1

func TestSaneByHand(t *testing.T) {
	for _, p := range sane() {
		if !clus.Sane(p.s) || !wantSane(p.s) {
			t.Errorf("Sane(%+v) = false", p.s)
		}
	}
	for _, s := range []clus.State{
		{Kind: 1}, {Kind: -1}, {Kind: prop.RI}, {Kind: prop.Pict}, {Pict: true}, {Odd: true}, {Kind: prop.Pict, Pict: true}, {Kind: prop.ZWJ, Pict: true}, {Kind: prop.RI, Odd: true},
		{On: true, Kind: -1}, {On: true, Kind: 15}, {On: true, Kind: 15, Pict: true}, {On: true, Kind: math.MaxInt}, {On: true, Kind: math.MinInt}, {On: true, Kind: 1 << 32}, {On: true, Kind: 1<<32 + prop.Pict, Pict: true},
		{On: true, Pict: true}, {On: true, Odd: true}, {On: true, Kind: prop.Pict}, {On: true, Kind: prop.Pict, Odd: true}, {On: true, Kind: prop.Pict, Pict: true, Odd: true},
		{On: true, Kind: prop.Extend, Odd: true}, {On: true, Kind: prop.ZWJ, Odd: true}, {On: true, Kind: prop.ZWJ, Pict: true, Odd: true}, {On: true, Kind: prop.Spacing, Pict: true}, {On: true, Kind: prop.Control, Pict: true},
		{On: true, Kind: prop.RI, Pict: true}, {On: true, Kind: prop.RI, Pict: true, Odd: true}, {On: true, Kind: prop.L, Odd: true}, {On: true, Kind: prop.LVT, Pict: true},
	} {
		if clus.Sane(s) || wantSane(s) {
			t.Errorf("Sane(%+v) = true", s)
		}
	}
}

// Every State, Sane or not, ahead of a value of each kind, and of what is no value; those that are Sane are those written out.
func TestEveryState(t *testing.T) {
	count := 0
	for _, s := range sample.ClusStates() {
		checkState(t, s, slices.Concat(bad, sample.OfKind())...)
		if clus.Sane(s) {
			count++
		}
	}
	if count != len(sane()) {
		t.Errorf("%d States are Sane; want %d", count, len(sane()))
	}
}

// What is not Sane counts as what is empty.
func TestInsaneStates(t *testing.T) {
	for _, s := range sample.ClusStates() {
		if clus.Sane(s) {
			continue
		}
		for _, r := range slices.Concat(bad, sample.OfKind()) {
			if clus.Ends(s, r) {
				t.Fatalf("Ends(%+v, %#x), though nothing came", s, r)
			}
			if next, first := clus.Next(s, r), clus.Next(clus.State{}, r); next != first {
				t.Fatalf("Next(%+v, %#x) = %+v; behind nothing it is %+v", s, r, next, first)
			}
		}
	}
}

// P11.2

// Each State ahead of each kind: a bar where what came ends.
func TestEndsByHand(t *testing.T) {
	const order = "o R N c e z i p s L V T v t x"
	table := map[string]string{
		"":   ". . . . . . . . . . . . . . .",
		"o":  "| | | | . . | | . | | | | | |",
		"R":  "| | . | | | | | | | | | | | |",
		"N":  "| | | | | | | | | | | | | | |",
		"c":  "| | | | | | | | | | | | | | |",
		"e":  "| | | | . . | | . | | | | | |",
		"e+": "| | | | . . | | . | | | | | |",
		"z":  "| | | | . . | | . | | | | | |",
		"z+": "| | | | . . | | . | | | | | .",
		"i":  "| | | | . . | | . | | | | | |",
		"i+": "| | | | . . . | . | | | | | |",
		"p":  ". | | | . . . . . . . . . . .",
		"s":  "| | | | . . | | . | | | | | |",
		"L":  "| | | | . . | | . . . | . . |",
		"V":  "| | | | . . | | . | . . | | |",
		"T":  "| | | | . . | | . | | . | | |",
		"v":  "| | | | . . | | . | . . | | |",
		"t":  "| | | | . . | | . | | . | | |",
		"x+": "| | | | . . | | . | | | | | |",
	}
	for _, p := range sane() {
		ends, known := table[p.sign]
		if !known {
			t.Errorf("nothing is known of %q", p.sign)
		}
		for k, sign := range strings.Fields(ends) {
			r := sample.Values(strings.Fields(order)[k])[0]
			if got := clus.Ends(p.s, r); got != (sign == "|") {
				t.Errorf("Ends(%+v, %#x) = %v", p.s, r, got)
			}
		}
	}
}

// Every value, and many numbers beside them, behind some States whose rules are not alike.
func TestEveryValue(t *testing.T) {
	states := []clus.State{{}, {On: true, Kind: prop.CR}, {On: true, Kind: prop.L}, {On: true, Kind: prop.LV}, {On: true, Kind: prop.ZWJ, Pict: true}, {On: true, Kind: prop.RI, Odd: true}, {Odd: true}}
	for r := range sample.Numbers() {
		for _, s := range states {
			checkState(t, s, r)
		}
	}
}

// What is no value is as what has no kind.
func TestNumbersThatAreNoValues(t *testing.T) {
	for _, r := range bad {
		for _, p := range sane() {
			if ends, want := clus.Ends(p.s, r), clus.Ends(p.s, 'a'); ends != want {
				t.Errorf("Ends(%+v, %#x) = %v; ahead of 0061 it is %v", p.s, r, ends, want)
			}
			if next, want := clus.Next(p.s, r), clus.Next(p.s, 'a'); next != want {
				t.Errorf("Next(%+v, %#x) = %+v; of 0061 it is %+v", p.s, r, next, want)
			}
		}
		checkCuts(t, []int{r, 0x301, r, '\r', r, 0x600, r, r})
	}
	checkCuts(t, bad)
}

// P11.3

func TestNextByHand(t *testing.T) {
	state := map[string]clus.State{}
	for _, p := range sane() {
		state[p.sign] = p.s
	}
	for _, x := range []struct{ ahead, sign, next string }{
		{"", "o", "o"}, {"", "R", "R"}, {"", "e", "e"}, {"", "z", "z"}, {"", "i", "i+"}, {"", "x", "x+"}, {"", "t", "t"},
		{"o", "o", "o"}, {"o", "e", "e"}, {"o", "z", "z"}, {"o", "i", "i+"}, {"o", "x", "x+"}, {"R", "N", "N"}, {"p", "x", "x+"}, {"p", "i", "i+"},
		{"x+", "x", "x+"}, {"x+", "e", "e+"}, {"x+", "z", "z+"}, {"x+", "s", "s"}, {"x+", "o", "o"}, {"x+", "c", "c"}, {"x+", "i", "i+"},
		{"e+", "x", "x+"}, {"e+", "e", "e+"}, {"e+", "z", "z+"}, {"e+", "s", "s"}, {"e+", "o", "o"}, {"e+", "i", "i+"},
		{"z+", "x", "x+"}, {"z+", "e", "e"}, {"z+", "z", "z"}, {"z+", "s", "s"}, {"z+", "o", "o"},
		{"e", "x", "x+"}, {"e", "e", "e"}, {"e", "z", "z"}, {"z", "e", "e"}, {"z", "z", "z"}, {"z", "x", "x+"}, {"s", "e", "e"}, {"s", "z", "z"},
		{"i+", "i", "i"}, {"i", "i", "i+"}, {"i+", "e", "e"}, {"i+", "o", "o"}, {"i+", "x", "x+"}, {"i", "z", "z"}, {"e", "i", "i+"},
		{"L", "V", "V"}, {"V", "T", "T"}, {"v", "T", "T"}, {"T", "L", "L"}, {"t", "v", "v"}, {"L", "t", "t"},
	} {
		r := sample.Values(x.sign)[0]
		if next := clus.Next(state[x.ahead], r); next != state[x.next] {
			t.Errorf("Next(%+v, %#x) = %+v; want %+v", state[x.ahead], r, next, state[x.next])
		}
	}
}

// The document's example.
func TestExample(t *testing.T) {
	if cuts := clus.Cuts([]int{0x65, 0x301, 0x66}); !slices.Equal(cuts, []bool{false, false, true}) {
		t.Errorf("Cuts of 65 301 66 are %v", cuts)
	}
}

func TestCutsByHand(t *testing.T) {
	for _, want := range []string{
		"", "o", "e", "R", "x",
		"o|o", "oe|o", "oe|oe", "oezs|o", "o|po", "o|i", "o|x",
		"RN", "R|R", "N|R", "N|N", "RN|RN", "R|RN", "c|c", "c|R|c", "o|RN|o", "o|c|e", "RN|e", "R|e|N", "c|ezs|c", "N|z", "c|s", "p|c", "p|RN", "e|R",
		"e|o", "ee|o", "z|x", "s|x", "sss", "ez|o",
		"po", "ppo|o", "pe|p", "pe|o", "p", "pp", "pLV", "pii|i", "pxzx", "px|x", "oe|pse",
		"LV", "LVT", "LVTT", "LVTT|V", "LLVV", "L|T", "LL|T", "T|V", "TT|L", "Lv", "LvT", "LvVT", "Lt", "LtT", "Lt|V", "L|o", "v|v", "vT|t", "vVV", "t|t", "t|v", "tT|V|L", "V|v", "V|t", "V|L", "VV|L", "v|L", "T|v", "Le|V", "LVe|T", "ve|V", "L|x", "Lz|x",
		"i|o", "ii", "ii|i", "ii|ii", "ii|ii|i", "ie|i", "ie|ii|i", "ize|ii", "iie|i", "iie|ii", "is|ii|i", "i|x", "o|ii|i", "ii|o|ii", "i|R|ii",
		"x|x", "xe|x", "xz", "xzx", "xezx", "xeezx", "xzxzx", "xzxezx", "xzxz|o", "xz|o", "xzz|x", "xez|i", "xze|x", "xzez|x", "xsz|x", "xes|x", "xz|i", "oz|x", "iz|x", "xzxe", "xzx|x", "xzxs|x", "x|o", "c|z|x", "xz|c|x", "xz|pxzx",
	} {
		l := sample.Values(want)
		if cuts := told(l, clus.Cuts(l)); cuts != want {
			t.Errorf("Cuts(%#x) are %s; want %s", l, cuts, want)
		}
		checkCuts(t, l)
	}
}

// All short lists of all kinds, and the longer ones of those whose rules hang on more than two values.
func TestAllShortLists(t *testing.T) {
	for l := range sample.Lists(sample.OfKind(), 4) {
		checkCuts(t, l)
	}
	for few, n := range map[string]int{"xezs": 7, "xzic": 6, "iez": 8, "pixzo": 6, "LVTvt": 6, "LVTvte": 5, "RNc": 8, "RNcope": 5} {
		for l := range sample.Lists(sample.Values(few), n) {
			checkCuts(t, l)
		}
	}
}

// The States that come are those that may be.
func TestStatesThatCome(t *testing.T) {
	come := map[clus.State]bool{{}: true}
	for l := range sample.Lists(sample.OfKind(), 3) {
		var s clus.State
		for _, r := range l {
			s = clus.Next(s, r)
			come[s] = true
		}
	}
	for _, p := range sane() {
		if !come[p.s] {
			t.Errorf("%+v never comes", p.s)
		}
	}
	if len(come) != len(sane()) {
		t.Errorf("%d States come; want %d", len(come), len(sane()))
	}
}

// Where clusters end hangs on no more of what came than the State tells: a list that is cut anywhere, and goes on from the State there, is cut as it is whole.
func TestGoingOn(t *testing.T) {
	for l := range sample.Lists(sample.Values("xezip"), 5) {
		whole := clus.Cuts(l)
		for k := range l {
			var s clus.State
			for _, r := range l[:k] {
				s = clus.Next(s, r)
			}
			cuts := clus.Cuts(l[:k])
			for _, r := range l[k:] {
				cuts = append(cuts, clus.Ends(s, r))
				s = clus.Next(s, r)
			}
			if !slices.Equal(cuts, whole) {
				t.Fatalf("Cuts(%#x) are %s; in two, from %d on, %s", l, told(l, whole), k, told(l, cuts))
			}
		}
	}
}

// P11.4

func TestWhatExtends(t *testing.T) {
	for l := range sample.Lists(sample.OfKind(), 4) {
		signs := sample.Signs(l)
		for k, cut := range clus.Cuts(l) {
			extends := strings.ContainsRune("ezs", rune(signs[k]))
			if extends && cut != (k > 0 && strings.ContainsRune("RNc", rune(signs[k-1]))) {
				t.Fatalf("of %#x what extends begins anew at %d: %v", l, k, cut)
			}
		}
	}
}

// Of a great list it is told as soon, for its length, as of a small one. Each part but the first is cut as is said.
func TestGreatLists(t *testing.T) {
	for _, part := range []string{"|o", "e", "|RN", "|N|N", "N|R", "|ii", "|ie", "xz", "xez", "|xze", "|xzz", "|LV", "L", "VV", "|LVT", "p", "|p|c"} {
		few := sample.Values(part)
		l := slices.Repeat(few, 1<<16)
		cuts := clus.Cuts(l)
		if len(cuts) != len(l) || cuts[0] {
			t.Errorf("of %d values, %d are told of", len(l), len(cuts))
		}
		for n := len(few); n < len(l); n += len(few) {
			if got := told(l[n:n+len(few)], cuts[n:n+len(few)]); got != part {
				t.Fatalf("many of %s are cut to %s at %d", part, got, n)
			}
		}
	}
}

// Nothing is kept: who changes an answer changes no other one, made before or after it, nor what was handed in, nor what stands behind this in its memory.
func TestAnswersApart(t *testing.T) {
	for l := range sample.Lists(sample.Values("oexz"), 4) {
		spare := slices.Concat(l, []int{'a', 'b', 0x301})
		in := spare[:len(l)]
		first, second := clus.Cuts(in), clus.Cuts(in)
		for k := range first {
			first[k] = !first[k]
		}
		if !slices.Equal(second, wantCuts(l)) || !slices.Equal(spare, slices.Concat(l, []int{'a', 'b', 0x301})) {
			t.Fatalf("who changed an answer of %#x changed another one, or what was handed in", l)
		}
		checkCuts(t, in)
	}
}

// Nothing is kept: the calls of several that go at once are as those of one, and the wrong ones leave nothing behind.
func TestCallsAtOnce(t *testing.T) {
	var ended sync.WaitGroup
	for range 8 {
		ended.Go(func() {
			for _, s := range sample.ClusStates() {
				clus.Cuts(bad)
				clus.Ends(s, bad[0])
				clus.Next(s, 0x1F600)
				l := sample.Values("oexezxii")
				if cuts := told(l, clus.Cuts(l)); cuts != "oe|xezx|ii" {
					t.Errorf("behind %+v, the cuts are %s", s, cuts)
					return
				}
			}
		})
	}
	ended.Wait()
}
