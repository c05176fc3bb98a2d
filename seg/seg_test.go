package seg_test

import (
	"math"
	"slices"
	"strings"
	"sync"
	"testing"

	"pentrough/clus"
	"pentrough/prop"
	"pentrough/sample"
	"pentrough/seg"
)

// bad: numbers that are no values, and so end as what has no kind does; many would have a kind once they are cut down to fewer bits.
var bad = append(sample.Bad(), -'\r', -0x200D, -1<<32+'\n', math.MinInt+0x1F600, 1<<21+0x1F1E6, 1<<32+'\r', 1<<32+0x200D, 1<<32+0xAC00, 1<<62+0x1100)

// Where clusters end is asked of clus; what is made of this is told anew here, as near to the document's words as may be.

func wantSane(s seg.State) bool {
	if len(s.C) > 32 || !clus.Sane(s.S) {
		return false
	}
	if len(s.C) > 0 {
		return s.S.On
	}
	return !s.S.On
}

func wantFeed(s seg.State, r int) (seg.State, []int) {
	if !wantSane(s) {
		s = seg.State{}
	}
	next := clus.Next(s.S, r)
	if (len(s.C) > 0 && clus.Ends(s.S, r)) || len(s.C) == 32 {
		return seg.State{C: []int{r}, S: next}, s.C
	}
	return seg.State{C: slices.Concat(s.C, []int{r}), S: next}, nil
}

func wantEnd(s seg.State) []int {
	if !wantSane(s) {
		return nil
	}
	return s.C
}

func wantAll(l []int) [][]int {
	var s seg.State
	var all [][]int
	for _, r := range l {
		var c []int
		s, c = wantFeed(s, r)
		if len(c) > 0 {
			all = append(all, c)
		}
	}
	if c := wantEnd(s); len(c) > 0 {
		all = append(all, c)
	}
	return all
}

// cutAll tells the clusters without any State: of each stretch between two cuts of clus, 32 values at a time.
func cutAll(l []int) [][]int {
	cuts := clus.Cuts(l)
	var all [][]int
	from := 0
	for k := range l {
		if k+1 == len(l) || cuts[k+1] {
			all = slices.AppendSeq(all, slices.Chunk(l[from:k+1], 32))
			from = k + 1
		}
	}
	return all
}

// told tells the signs of clusters, with a bar between two.
func told(clusters [][]int) string {
	var all []string
	for _, c := range clusters {
		all = append(all, sample.Signs(c))
	}
	return strings.Join(all, "|")
}

func same(clusters, others [][]int) bool { return slices.EqualFunc(clusters, others, slices.Equal) }

func equal(s, other seg.State) bool { return slices.Equal(s.C, other.C) && s.S == other.S }

// checkState holds the calls that are handed a State, at one.
func checkState(t *testing.T, s seg.State, values ...int) {
	t.Helper()
	if sane, want := seg.Sane(s), wantSane(s); sane != want {
		t.Fatalf("Sane(%+v) = %v; want %v", s, sane, want)
	}
	if end, want := seg.End(s), wantEnd(s); !slices.Equal(end, want) {
		t.Fatalf("End(%+v) = %#x; want %#x", s, end, want)
	}
	for _, r := range values {
		next, c := seg.Feed(s, r)
		want, wantC := wantFeed(s, r)
		if !equal(next, want) || !slices.Equal(c, wantC) {
			t.Fatalf("Feed(%+v, %#x) = %+v, %#x; want %+v, %#x", s, r, next, c, want, wantC)
		}
		if !seg.Sane(next) {
			t.Fatalf("Feed(%+v, %#x) leaves %+v, which is not Sane", s, r, next)
		}
	}
}

// checkAll holds All alone: against what Feed should tell, and against what clus cuts.
func checkAll(t *testing.T, l []int) {
	t.Helper()
	all := seg.All(l)
	if want := wantAll(l); !same(all, want) {
		t.Fatalf("All(%#x) = %s; want %s", l, told(all), told(want))
	}
	if cut := cutAll(l); !same(all, cut) {
		t.Fatalf("All(%#x) = %s; as clus cuts they are %s", l, told(all), told(cut))
	}
	if whole := slices.Concat(all...); !slices.Equal(whole, l) {
		t.Fatalf("the clusters of %#x, one behind the other, are %#x", l, whole)
	}
}

// check holds All, and value by value what Feed tells, at one list: of whatever it begins with, what was told, and what the end tells, are its clusters.
func check(t *testing.T, l []int) {
	t.Helper()
	var s seg.State
	var clusters [][]int
	for k, r := range l {
		checkState(t, s, r)
		var c []int
		s, c = seg.Feed(s, r)
		if len(c) > 0 {
			clusters = append(clusters, c)
		}
		if all := append(slices.Clip(clusters), seg.End(s)); !same(all, cutAll(l[:k+1])) {
			t.Fatalf("of %#x was told %s; as clus cuts they are %s", l[:k+1], told(all), told(cutAll(l[:k+1])))
		}
	}
	checkAll(t, l)
}

// insane tells States that may not be, each for one reason, and such as have several.
func insane() []seg.State {
	on := clus.State{On: true}
	return []seg.State{
		{C: []int{'a'}}, {C: sample.Row(32)}, {C: sample.Row(33)},
		{S: on}, {S: sample.ClusState("xe")}, {S: sample.ClusState("i")}, {C: []int{}, S: on},
		{C: sample.Row(33), S: on}, {C: sample.Row(1 << 12), S: on}, {C: sample.Row(33), S: sample.ClusState("xz")},
		{C: []int{'a'}, S: clus.State{On: true, Kind: 15}}, {C: []int{'a'}, S: clus.State{On: true, Kind: -1}}, {C: []int{'a'}, S: clus.State{On: true, Odd: true}},
		{C: []int{0x1F600}, S: clus.State{On: true, Kind: prop.Pict}}, {C: []int{0x1F1E6}, S: clus.State{On: true, Kind: prop.RI, Pict: true}},
		{C: []int{'a'}, S: clus.State{Kind: prop.ZWJ}}, {C: []int{'a'}, S: clus.State{Odd: true}}, {S: clus.State{Kind: 1}}, {S: clus.State{Pict: true}},
		{C: sample.Row(33), S: clus.State{Kind: math.MinInt, Pict: true, Odd: true}},
	}
}

// P12.1

func TestSaneByHand(t *testing.T) {
	for _, s := range []seg.State{
		{}, {C: []int{}}, {C: []int{'a'}, S: sample.ClusState("o")}, {C: []int{'a', 0x301}, S: sample.ClusState("oe")}, {C: sample.Row(31), S: sample.ClusState("e")}, {C: sample.Row(32), S: sample.ClusState("e")},
		{C: sample.Row(32), S: sample.ClusState("xz")}, {C: []int{0x1F1E6}, S: sample.ClusState("i")}, {C: []int{0x1F1E6}, S: sample.ClusState("ii")},
		// Of what stands in C, and whether it is one cluster, nothing is asked.
		{C: []int{'a', 'b', '\r'}, S: sample.ClusState("i")}, {C: []int{-1}, S: sample.ClusState("x")}, {C: bad[:20], S: sample.ClusState("L")},
	} {
		if !seg.Sane(s) || !wantSane(s) {
			t.Errorf("Sane(%+v) = false", s)
		}
		checkState(t, s, sample.OfKind()...)
	}
	for _, s := range insane() {
		if seg.Sane(s) || wantSane(s) {
			t.Errorf("Sane(%+v) = true", s)
		}
		checkState(t, s, sample.OfKind()...)
	}
}

// Every State of clus, Sane or not, with as many values as are about the bounds, ahead of a value of each kind.
func TestEveryState(t *testing.T) {
	for _, n := range []int{0, 1, 2, 30, 31, 32, 33, 34, 64, 256 + 1} {
		for _, s := range sample.ClusStates() {
			checkState(t, seg.State{C: sample.Row(n), S: s}, sample.OfKind()...)
		}
	}
}

// What is not Sane counts as what is empty.
func TestInsaneStates(t *testing.T) {
	for _, s := range insane() {
		if end := seg.End(s); len(end) > 0 {
			t.Errorf("End(%+v) = %#x", s, end)
		}
		for _, r := range slices.Concat(bad, sample.OfKind()) {
			next, c := seg.Feed(s, r)
			if first, _ := seg.Feed(seg.State{}, r); !equal(next, first) || len(c) > 0 {
				t.Fatalf("Feed(%+v, %#x) = %+v, %#x; behind nothing it is %+v", s, r, next, c, first)
			}
		}
	}
}

// P12.2

func TestFeedByHand(t *testing.T) {
	full := sample.Row(32)
	for _, x := range []struct {
		s    seg.State
		r    int
		next seg.State
		told []int
	}{
		{seg.State{}, 'a', seg.State{C: []int{'a'}, S: sample.ClusState("o")}, nil},
		{seg.State{}, 0x301, seg.State{C: []int{0x301}, S: sample.ClusState("e")}, nil},
		{seg.State{}, '\n', seg.State{C: []int{'\n'}, S: sample.ClusState("N")}, nil},
		{seg.State{}, 0x1F1E6, seg.State{C: []int{0x1F1E6}, S: sample.ClusState("i")}, nil},
		{seg.State{}, -1, seg.State{C: []int{-1}, S: sample.ClusState("o")}, nil},
		{seg.State{C: []int{'a'}, S: sample.ClusState("o")}, 0x301, seg.State{C: []int{'a', 0x301}, S: sample.ClusState("oe")}, nil},
		{seg.State{C: []int{'a'}, S: sample.ClusState("o")}, 'b', seg.State{C: []int{'b'}, S: sample.ClusState("o")}, []int{'a'}},
		{seg.State{C: []int{'a', 0x301}, S: sample.ClusState("oe")}, 'b', seg.State{C: []int{'b'}, S: sample.ClusState("o")}, []int{'a', 0x301}},
		{seg.State{C: []int{'\r'}, S: sample.ClusState("R")}, '\n', seg.State{C: []int{'\r', '\n'}, S: sample.ClusState("N")}, nil},
		{seg.State{C: []int{'\r', '\n'}, S: sample.ClusState("N")}, 0x301, seg.State{C: []int{0x301}, S: sample.ClusState("e")}, []int{'\r', '\n'}},
		{seg.State{C: []int{0x1F1E6}, S: sample.ClusState("i")}, 0x1F1E7, seg.State{C: []int{0x1F1E6, 0x1F1E7}, S: sample.ClusState("ii")}, nil},
		{seg.State{C: []int{0x1F1E6, 0x1F1E7}, S: sample.ClusState("ii")}, 0x1F1E8, seg.State{C: []int{0x1F1E8}, S: sample.ClusState("i")}, []int{0x1F1E6, 0x1F1E7}},
		// S alone tells where clusters end, whatever stands in C.
		{seg.State{C: []int{'a', 'b'}, S: sample.ClusState("i")}, 0x1F1E6, seg.State{C: []int{'a', 'b', 0x1F1E6}, S: sample.ClusState("ii")}, nil},
		{seg.State{C: []int{0x1F1E6}, S: sample.ClusState("ii")}, 0x1F1E6, seg.State{C: []int{0x1F1E6}, S: sample.ClusState("i")}, []int{0x1F1E6}},
		{seg.State{C: []int{'a'}, S: sample.ClusState("R")}, '\n', seg.State{C: []int{'a', '\n'}, S: sample.ClusState("N")}, nil},
		// One value more than may be is a cluster's first one, but S goes on.
		{seg.State{C: sample.Row(31), S: sample.ClusState("e")}, 0x301, seg.State{C: full, S: sample.ClusState("e")}, nil},
		{seg.State{C: full, S: sample.ClusState("e")}, 0x302, seg.State{C: []int{0x302}, S: sample.ClusState("e")}, full},
		{seg.State{C: full, S: sample.ClusState("e")}, 'b', seg.State{C: []int{'b'}, S: sample.ClusState("o")}, full},
		{seg.State{C: full, S: sample.ClusState("R")}, '\n', seg.State{C: []int{'\n'}, S: sample.ClusState("N")}, full},
		{seg.State{C: full, S: sample.ClusState("i")}, 0x1F1E6, seg.State{C: []int{0x1F1E6}, S: sample.ClusState("ii")}, full},
		{seg.State{C: full, S: sample.ClusState("xe")}, 0x200D, seg.State{C: []int{0x200D}, S: sample.ClusState("xez")}, full},
		{seg.State{C: full, S: sample.ClusState("xz")}, 0x1F600, seg.State{C: []int{0x1F600}, S: sample.ClusState("x")}, full},
	} {
		next, c := seg.Feed(x.s, x.r)
		if !equal(next, x.next) || !slices.Equal(c, x.told) {
			t.Errorf("Feed(%+v, %#x) = %+v, %#x; want %+v, %#x", x.s, x.r, next, c, x.next, x.told)
		}
		checkState(t, x.s, x.r)
	}
}

func TestEndByHand(t *testing.T) {
	for _, x := range []struct {
		s   seg.State
		end []int
	}{
		{}, {s: seg.State{C: []int{}}}, {seg.State{C: []int{'a'}, S: sample.ClusState("o")}, []int{'a'}}, {seg.State{C: []int{'a', 'b', -1}, S: sample.ClusState("x")}, []int{'a', 'b', -1}}, {seg.State{C: sample.Row(32), S: sample.ClusState("L")}, sample.Row(32)}, {s: seg.State{C: sample.Row(33), S: sample.ClusState("L")}}, {s: seg.State{C: []int{'a'}}},
	} {
		if end := seg.End(x.s); !slices.Equal(end, x.end) {
			t.Errorf("End(%+v) = %#x; want %#x", x.s, end, x.end)
		}
	}
}

// Every value, and many numbers beside them: behind nothing, behind some States whose rules are not alike, and behind as many values as may be.
func TestEveryValue(t *testing.T) {
	states := []seg.State{{}, {C: []int{'\r'}, S: sample.ClusState("R")}, {C: []int{0xAC00, 0x1161}, S: sample.ClusState("LV")}, {C: []int{0x1F600, 0x200D}, S: sample.ClusState("xz")}, {C: []int{0x1F1E6}, S: sample.ClusState("i")}, {C: sample.Row(32), S: sample.ClusState("p")}, {C: sample.Row(33), S: sample.ClusState("p")}}
	for r := range sample.Numbers() {
		for _, s := range states {
			checkState(t, s, r)
		}
	}
}

// What is no value is as what has no kind.
func TestNumbersThatAreNoValues(t *testing.T) {
	for _, r := range bad {
		if all, want := told(seg.All([]int{r, 0x301, r, '\r', r, 0x600, r, r})), "oe|o|R|o|po|o"; all != want {
			t.Errorf("with %#x, the clusters are %s; want %s", r, all, want)
		}
		check(t, slices.Repeat([]int{0x600, r}, 40))
	}
	check(t, bad)
}

// P12.3

// The document's example.
func TestExample(t *testing.T) {
	if all := seg.All([]int{0x65, 0x301, 0x66}); !same(all, [][]int{{0x65, 0x301}, {0x66}}) {
		t.Errorf("All of 65 301 66 are %#x", all)
	}
}

func TestAllByHand(t *testing.T) {
	marks, prepends := strings.Repeat("e", 31), strings.Repeat("p", 31)
	for _, want := range []string{
		"", "o", "e", "R", "x", "o|o", "oe|o", "oezs|o|oe", "RN|R|R|c|e", "po|ppo", "LVT|LVTT|L", "ii|ii|i", "xzx|x", "xezx|xze|x", "c|ze|c",
		// As many values as may be, and one or two more.
		"o" + marks, "o" + marks + "|o", "o" + marks + "|e", "o" + marks + "|e|o", "o" + marks + "|ee|oe", "o" + marks + "|R", "o" + marks + "|RN|o", "o" + marks + "|c|e",
		"oe|o" + marks + "|e", "e" + marks + "|e" + marks, "o" + marks + "|e" + marks + "|e" + marks + "|eze|o", "c|e" + marks + "|e|c",
		prepends + "p|po|o", prepends + "p|pp|R", prepends + "o|o", prepends + "|RN", prepends + "|c|p",
		// What is known of the values ahead goes on: half a flag, what a picture is joined by, Hangul's.
		prepends + "i|i|ii", prepends + "i|i|i", "po|" + prepends + "i|ie|ii", prepends + "p|ii|i",
		"x" + marks[1:] + "z|x|x", "x" + marks + "|zx|o", "x" + marks + "|ezx|x", "o" + marks[1:] + "z|x", "x" + marks[1:] + "z|z|x",
		strings.Repeat("L", 32) + "|VT|L", strings.Repeat("L", 31) + "V|T|V", "L" + strings.Repeat("V", 31) + "|VT|v",
	} {
		l := sample.Values(want)
		if all := told(seg.All(l)); all != want {
			t.Errorf("All(%#x) = %s; want %s", l, all, want)
		}
		check(t, l)
	}
	if all := seg.All([]int{}); len(all) > 0 {
		t.Errorf("All of none = %#x", all)
	}
}

// All short lists of all kinds, the longer ones of some, and those behind so much that one of their values is the first too many.
func TestAllShortLists(t *testing.T) {
	for l := range sample.Lists(sample.OfKind(), 3) {
		check(t, l)
	}
	for l := range sample.Lists(sample.OfKind(), 4) {
		checkAll(t, l)
	}
	for few, n := range map[string]int{"xez": 7, "oeizc": 5, "LVTvt": 5, "RNceo": 5} {
		for l := range sample.Lists(sample.Values(few), n) {
			checkAll(t, l)
		}
	}
	for n := 28; n <= 33; n++ {
		for _, ahead := range []string{"p", "e", "L", "xez"} {
			many := slices.Repeat(sample.Values(ahead), n)[:n]
			for l := range sample.Lists(sample.Values("oRNeziLVpx"), 4) {
				checkAll(t, slices.Concat(many, l))
			}
		}
	}
}

// Lists of all lengths of few values, value by value.
func TestAllLengths(t *testing.T) {
	for _, few := range []string{"o", "e", "p", "i", "xz", "xezze", "L", "LV", "LVTTTT", "RN", "N", "oee", "pi", "ppppi", "ei"} {
		l := slices.Repeat(sample.Values(few), 131)
		check(t, l[:131])
		for n := range 131 {
			checkAll(t, l[:n])
		}
	}
}

// What is told hangs on no more of what came than the State tells: who goes on from a State, wherever it was left, goes on as who was never stopped.
func TestGoingOn(t *testing.T) {
	row := sample.Values("oe" + strings.Repeat("e", 40) + "xezx" + strings.Repeat("iii", 4) + "RNR" + strings.Repeat("pe", 40) + "xzi")
	for k := range row {
		var s seg.State
		var clusters [][]int
		for _, part := range [][]int{row[:k], row[k:]} {
			s = seg.State{C: slices.Clone(s.C), S: s.S}
			for _, r := range part {
				var c []int
				if s, c = seg.Feed(s, r); len(c) > 0 {
					clusters = append(clusters, c)
				}
			}
		}
		if all := append(clusters, seg.End(s)); !same(all, cutAll(row)) {
			t.Fatalf("in two, from %d on, the clusters are %s; want %s", k, told(all), told(cutAll(row)))
		}
	}
}

// P12.4

// Where none is too long clusters end where clus cuts, and nowhere else; and none is empty, or too long, where they are.
func TestWhereNoneIsTooLong(t *testing.T) {
	for l := range sample.Lists(sample.OfKind(), 4) {
		cuts := make([]bool, len(l))
		begin := 0
		for _, c := range seg.All(l) {
			cuts[begin] = begin > 0
			begin += len(c)
		}
		if !slices.Equal(cuts, clus.Cuts(l)) {
			t.Fatalf("clusters of %#x are %s; clus cuts %v", l, told(seg.All(l)), clus.Cuts(l))
		}
	}
	for l := range sample.Hard() {
		checkAll(t, l)
		for _, c := range seg.All(l) {
			if len(c) == 0 || len(c) > 32 {
				t.Fatalf("a cluster of %#x has %d values", l, len(c))
			}
		}
	}
}

// No more is kept of a great list than of a small one, and it ends as soon, for its length.
func TestGreatLists(t *testing.T) {
	for few, n := range map[string]int{"o": 1 << 17, "e": 1 << 12, "oe": 1 << 17, "p": 1 << 12, "RN": 1 << 17, "ii": 1 << 17, "xz": 1 << 13, "LV": 1 << 17, "L": 1 << 12} {
		l := slices.Repeat(sample.Values(few), 1<<17)
		if all := seg.All(l); len(all) != n || !slices.Equal(slices.Concat(all...), l) {
			t.Errorf("of many of %s there are %d clusters; want %d", few, len(all), n)
		}
		var s seg.State
		count := 0
		for _, r := range l {
			var c []int
			s, c = seg.Feed(s, r)
			if len(s.C) > 32 || len(c) > 32 {
				t.Fatalf("of many of %s %d values are left, and %d told", few, len(s.C), len(c))
			}
			if len(c) > 0 {
				count++
			}
		}
		if count+1 != n {
			t.Errorf("of many of %s, one by one, %d clusters were told, and one was left; want %d", few, count, n)
		}
	}
}

// Nothing is kept: who changes an answer changes no other one, made before or after it, nor what was handed in, nor what stands behind this in its memory.
func TestAnswersApart(t *testing.T) {
	few := sample.Values("oexz")
	for l := range sample.Lists(few, 4) {
		spare := slices.Concat(l, sample.Row(40))
		in := spare[:len(l)]
		given := seg.State{C: in, S: sample.ClusState(sample.Signs(l))}
		for _, r := range few {
			first, c := seg.Feed(given, r)
			second, d := seg.Feed(given, r)
			for _, answer := range [][]int{first.C, c, seg.End(given)} {
				clear(answer[:cap(answer)])
			}
			if want, wantC := wantFeed(given, r); !equal(second, want) || !slices.Equal(d, wantC) {
				t.Fatalf("who changed an answer of Feed(%+v, %#x) made of another one %+v, %#x; want %+v, %#x", given, r, second, d, want, wantC)
			}
			checkState(t, given, r)
		}
		other, all := seg.All(in), seg.All(in)
		for k, c := range all {
			clear(c[:cap(c)])
			if !same(all[k+1:], other[k+1:]) {
				t.Fatalf("who changed a cluster of %#x changed those behind it: %#x", l, all)
			}
		}
		if !same(other, wantAll(l)) || !slices.Equal(spare, slices.Concat(l, sample.Row(40))) {
			t.Fatalf("who changed the clusters of %#x made of others %#x, and of what was handed in %#x", l, other, spare)
		}
	}
}

// Two that go on from one State do not go on in one memory, whatever room stands behind its values.
func TestTwoGoOn(t *testing.T) {
	for n := range 34 {
		var s seg.State
		for _, r := range sample.Row(n) {
			s, _ = seg.Feed(s, r)
		}
		first, c := seg.Feed(s, 0x302)
		second, d := seg.Feed(s, 0x303)
		third, e := seg.Feed(second, 0x304)
		clear(second.C[:cap(second.C)])
		want, wantC := wantFeed(s, 0x302)
		if !equal(first, want) || !slices.Equal(c, wantC) {
			t.Errorf("behind %d marks the first that goes on is at %+v, with %#x told; want %+v, %#x", n, first, c, want, wantC)
		}
		second, wantD := wantFeed(s, 0x303)
		last, wantE := wantFeed(second, 0x304)
		if !slices.Equal(d, wantD) || !equal(third, last) || !slices.Equal(e, wantE) {
			t.Errorf("behind %d marks the second is at %+v, with %#x and %#x told; want %+v, %#x, %#x", n, third, d, e, last, wantD, wantE)
		}
	}
}

// Nothing is kept: the calls of several that go at once are as those of one, and the wrong ones leave nothing behind.
func TestCallsAtOnce(t *testing.T) {
	given := seg.State{C: sample.Values("xe"), S: sample.ClusState("xe")}
	var ended sync.WaitGroup
	for range 8 {
		ended.Go(func() {
			for _, s := range slices.Concat(insane(), insane(), insane()) {
				seg.All(bad)
				seg.Feed(s, bad[0])
				seg.End(s)
				next, c := seg.Feed(given, 'a')
				if !slices.Equal(next.C, []int{'a'}) || !slices.Equal(c, []int{0x1F600, 0x301}) || told(seg.All(sample.Values("oexezxiii"))) != "oe|xezx|ii|i" {
					t.Errorf("behind %+v, Feed of 1F600 301 and 61 is %+v, %#x", s, next, c)
					return
				}
			}
		})
	}
	ended.Wait()
}
