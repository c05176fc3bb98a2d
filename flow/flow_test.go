package flow_test

import (
	"bytes"
	"encoding/binary"
	"iter"
	"slices"
	"strings"
	"sync"
	"testing"

	"pentrough/api"
	"pentrough/casing"
	"pentrough/dec"
	"pentrough/flow"
	"pentrough/foldin"
	"pentrough/frame"
	"pentrough/nfkc"
	"pentrough/norm"
	"pentrough/prop"
	"pentrough/sample"
	"pentrough/seg"
)

// some: what becomes one other without its case, several, and itself; what is made of others that have a case; marks, and what is put together with them; what is dropped, the Joiner among it; Hangul's; what controls, and what clusters are made of.
var some = []int{
	'a', 'E', 0xC9, 0xDF, 0x130, 0x149, 0x390, 0x1EAC, 0x212B, 0xFF21, 0xFB01, 0x301, 0x302, 0x323, 0x345, 0xAD, 0x34F, 0x200D, 0xFE0F,
	0x1100, 0x1161, 0x11A8, 0xAC00, '\r', '\n', 0x600, 0x903, 0x1F1E9, 0x1F600, 0x1F3FD, 0xFFFD, 0x10FFFF,
}

// few: those of some whose order matters most.
var few = []int{'E', 0xDF, 0x212B, 0xFB01, 0x301, 0x323, 0x345, 0xAD, 0x1100, 0x1161, '\n', 0x600, 0x1F1E9}

// edges: bytes of forms of each length, first ones and later ones, and those that are in no form.
var edges = []byte{0, 'E', 0x81, 0x82, 0x9F, 0xA9, 0xC3, 0xCC, 0xE2, 0xED, 0xF0, 0xF4, 0xFF}

// Each layer is asked value by value, or another one that tells as much, and texts and numbers are told by the library; what is made of these is told anew here, as near to the document's words as may be.

func wantRead(b []byte) []int {
	var s dec.State
	var all, told []int
	for _, c := range b {
		s, told = dec.Feed(s, c)
		all = append(all, told...)
	}
	return append(all, dec.End(s)...)
}

// wantFed tells what norm's Feed or foldin's tells of each value, and then the end.
func wantFed(feed func(norm.State, int) (norm.State, []int), l []int) []int {
	var s norm.State
	var all, told []int
	for _, r := range l {
		s, told = feed(s, r)
		all = append(all, told...)
	}
	return append(all, norm.End(s)...)
}

func wantValues(b []byte) []int { return wantFed(foldin.Feed, wantFed(norm.Feed, wantRead(b))) }

// wantForm tells the values without any State: the form, and the form of what is left of it.
func wantForm(b []byte) []int { return nfkc.Nfkc(foldin.Left(nfkc.Nfkc(wantRead(b)))) }

func wantClusters(l []int) [][]int {
	var s seg.State
	var all [][]int
	var told []int
	for _, r := range l {
		s, told = seg.Feed(s, r)
		if len(told) > 0 {
			all = append(all, told)
		}
	}
	if last := seg.End(s); len(last) > 0 {
		all = append(all, last)
	}
	return all
}

func wantTexts(clusters [][]int) []string {
	var all []string
	for _, c := range clusters {
		all = append(all, text(c...))
	}
	return all
}

func wantF(texts []string) []byte {
	var b []byte
	for _, text := range texts {
		b = append(binary.AppendUvarint(b, uint64(len(text))), text...)
	}
	return b
}

// text tells the text of scalar values.
func text(l ...int) string {
	var all strings.Builder
	for _, r := range l {
		all.WriteRune(rune(r))
	}
	return all.String()
}

// marks tells the text of n marks alike.
func marks(n int) string { return text(sample.Row(n)...) }

// short tells bytes in a failure's message.
func short(b []byte) []byte { return b[:min(len(b), 200)] }

func same(clusters, others [][]int) bool { return slices.EqualFunc(clusters, others, slices.Equal) }

// check holds all calls at some bytes, and what follows of them.
func check(t *testing.T, b []byte) {
	t.Helper()
	values, want := flow.Values(b), wantValues(b)
	if form := wantForm(b); !slices.Equal(values, want) || !slices.Equal(values, form) {
		t.Fatalf("Values(% x) = %#x; value by value they are %#x, and as forms %#x", short(b), values, want, form)
	}
	clusters, wanted := flow.Clusters(b), wantClusters(want)
	if !same(clusters, wanted) {
		t.Fatalf("Clusters(% x) = %#x; want %#x", short(b), clusters, wanted)
	}
	texts, wantT := flow.Texts(b), wantTexts(wanted)
	if !slices.Equal(texts, wantT) {
		t.Fatalf("Texts(% x) = %+q; want %+q", short(b), texts, wantT)
	}
	f := flow.F(b)
	if want := wantF(wantT); !bytes.Equal(f, want) {
		t.Fatalf("F(% x) = % x; want % x", short(b), short(f), short(want))
	}
	checkWhole(t, f)
	checkAgain(t, b, f)
}

// checkWhole holds that f is whole frames, of no more than 32 values each, and of one at least: 0 bytes would be the refusal.
func checkWhole(t *testing.T, f []byte) {
	t.Helper()
	texts, n, err := frame.All(f)
	if n != len(f) || err != api.OK {
		t.Fatalf("% x: of %d bytes %d are whole frames, and the error is %d", short(f), len(f), n, err)
	}
	for _, text := range texts {
		if values := len([]rune(text)); values < 1 || 32 < values {
			t.Fatalf("% x: %+q is framed, which has %d values", short(f), text, values)
		}
	}
}

// checkAgain holds that what was framed is a form already: its values stay, and it is framed again alike.
func checkAgain(t *testing.T, b, f []byte) {
	t.Helper()
	values := flow.Values(b)
	form := []byte(text(values...))
	if again := flow.Values(form); !slices.Equal(again, values) {
		t.Fatalf("Values(% x) are %#x, and theirs are %#x", short(b), values, again)
	}
	texts, _, _ := frame.All(f)
	if whole := strings.Join(texts, ""); whole != string(form) {
		t.Fatalf("F(% x) frames %+q; its values are %+q", short(b), whole, form)
	}
	if again := flow.F(form); !bytes.Equal(again, f) {
		t.Fatalf("F(% x) = % x; framed again it is % x", short(b), short(f), short(again))
	}
}

// P14.1

// The document's examples, the chapter's and those of the whole.
func TestExamples(t *testing.T) {
	if f := flow.F([]byte{0x45, 0xCC, 0x81}); !bytes.Equal(f, []byte{0x02, 0xC3, 0xA9}) {
		t.Errorf("F(45 CC 81) = % x", f)
	}
	if f := flow.F([]byte("AB")); !bytes.Equal(f, []byte{0x01, 0x61, 0x01, 0x62}) {
		t.Errorf("F of AB is % x", f)
	}
}

func TestByHand(t *testing.T) {
	for _, x := range []struct {
		b, f  string
		texts []string
	}{
		{"", "", nil},
		{"a", "\x01a", []string{"a"}},
		{"A", "\x01a", []string{"a"}},
		{"\x00", "\x01\x00", []string{"\x00"}},
		{"Hi!", "\x01h\x01i\x01!", []string{"h", "i", "!"}},
		{"\r\n\n\r", "\x02\r\n\x01\n\x01\r", []string{"\r\n", "\n", "\r"}},
		{"e\u0301", "\x02\xc3\xa9", []string{"\u00e9"}},
		{"\u00c9\u0323", "\x05\xe1\xba\xb9\xcc\x81", []string{"\u1eb9\u0301"}},
		{"a\u0302\u0323", "\x03\xe1\xba\xad", []string{"\u1ead"}},
		{"Q\u0301", "\x03q\xcc\x81", []string{"q\u0301"}},
		{"\u0301", "\x02\xcc\x81", []string{"\u0301"}},
		{"\u00df", "\x01s\x01s", []string{"s", "s"}},
		{"\u00df\u0301", "\x01s\x02\xc5\x9b", []string{"s", "\u015b"}},
		{"\u0130", "\x03i\xcc\x87", []string{"i\u0307"}},
		{"\ufb01", "\x01f\x01i", []string{"f", "i"}},
		// What is made of others that have a case: the form stands ahead of what takes the case away.
		{"\u212b", "\x02\xc3\xa5", []string{"\u00e5"}},
		{"\uff21\u030a", "\x02\xc3\xa5", []string{"\u00e5"}},
		{"\u2163", "\x01i\x01v", []string{"i", "v"}},
		{"\u03b1\u0345\u0301", "\x02\xce\xac\x02\xce\xb9", []string{"\u03ac", "\u03b9"}},
		// What is dropped parts nothing, and is nothing alone.
		{"\u00ad", "", nil},
		{"\u200d\ufe0f\u034f", "", nil},
		{"E\u034f\u0301\u00ad", "\x02\xc3\xa9", []string{"\u00e9"}},
		{"a\u0302\u200d\u0323", "\x03\xe1\xba\xad", []string{"\u1ead"}},
		{"\r\u00ad\n", "\x02\r\n", []string{"\r\n"}},
		{"\U0001f600\u200d\U0001f600", "\x04\xf0\x9f\x98\x80\x04\xf0\x9f\x98\x80", []string{"\U0001f600", "\U0001f600"}},
		// Hangul's, flags, and what else goes together.
		{"\u1100\u1161\u11a8", "\x03\xea\xb0\x81", []string{"\uac01"}},
		{"\u1100\u1160\u1161", "\x03\xea\xb0\x80", []string{"\uac00"}},
		{"\u1100\u1100", "\x06\xe1\x84\x80\xe1\x84\x80", []string{"\u1100\u1100"}},
		{"\U0001f1e9\U0001f1ea\U0001f1e9", "\x08\xf0\x9f\x87\xa9\xf0\x9f\x87\xaa\x04\xf0\x9f\x87\xa9", []string{"\U0001f1e9\U0001f1ea", "\U0001f1e9"}},
		{"\u0600A", "\x03\xd8\x80a", []string{"\u0600a"}},
		{"A\u0903B", "\x04a\xe0\xa4\x83\x01b", []string{"a\u0903", "b"}},
		// Of what is no text in UTF-8 Repl is read, also where the end cuts it off.
		{"\xff", "\x03\xef\xbf\xbd", []string{"\ufffd"}},
		{"\xcc", "\x03\xef\xbf\xbd", []string{"\ufffd"}},
		{"A\xe2\x82B", "\x01a\x03\xef\xbf\xbd\x01b", []string{"a", "\ufffd", "b"}},
		{"A\xf0\x9f\x98", "\x01a\x03\xef\xbf\xbd", []string{"a", "\ufffd"}},
		{"\xed\xa0\x80", "\x03\xef\xbf\xbd\x03\xef\xbf\xbd\x03\xef\xbf\xbd", []string{"\ufffd", "\ufffd", "\ufffd"}},
		{"E\xcc\xcc\x81", "\x01e\x05\xef\xbf\xbd\xcc\x81", []string{"e", "\ufffd\u0301"}},
	} {
		if f := flow.F([]byte(x.b)); string(f) != x.f {
			t.Errorf("F of %+q is %+q; want %+q", x.b, f, x.f)
		}
		if texts := flow.Texts([]byte(x.b)); !slices.Equal(texts, x.texts) {
			t.Errorf("Texts of %+q are %+q; want %+q", x.b, texts, x.texts)
		}
		check(t, []byte(x.b))
	}
	check(t, nil)
}

// The Joiner stands ahead of the 31st mark in a row; clusters end at 32 values, which may be as many as 128 bytes.
func TestLongOnesByHand(t *testing.T) {
	skin := strings.Repeat("\U0001f3fd", 31)
	for _, x := range []struct{ b, f string }{
		{"Q" + marks(30), "\x3dq" + marks(30)},
		{"Q" + marks(31), "\x3fq" + marks(30) + "\u034f\x02\u0301"},
		{"Q" + marks(30) + "\u034f", "\x3dq" + marks(30)},
		{"Q" + marks(15) + "\u034f" + marks(16), "\x3fq" + marks(30) + "\u034f\x02\u0301"},
		{"E" + marks(30), "\x3c\u00e9" + marks(29)},
		{marks(31), "\x40" + marks(30) + "\u034f\u0301"},
		{marks(32), "\x40" + marks(30) + "\u034f\u0301\x02\u0301"},
		{"\U0001f600" + skin, "\x80\x01\U0001f600" + skin},
		{"\U0001f600" + skin + "\U0001f3fdA", "\x80\x01\U0001f600" + skin + "\x04\U0001f3fd\x01a"},
		{"\U0001f600" + skin[4:] + "\u0301", "\x7e\U0001f600" + skin[4:] + "\u0301"},
		{strings.Repeat("\u0903", 43), "\x60" + strings.Repeat("\u0903", 32) + "\x21" + strings.Repeat("\u0903", 11)},
	} {
		if f := flow.F([]byte(x.b)); string(f) != x.f {
			t.Errorf("F of %+q is %+q; want %+q", x.b, f, x.f)
		}
		check(t, []byte(x.b))
	}
}

func TestValuesAndClustersByHand(t *testing.T) {
	for _, x := range []struct {
		b        string
		clusters [][]int
	}{
		{},
		{"E\u0301", [][]int{{0xE9}}},
		{"AbC", [][]int{{'a'}, {'b'}, {'c'}}},
		{"aQ\u0301", [][]int{{'a'}, {'q', 0x301}}},
		{"\u00c5\u212b\u00c4", [][]int{{0xE5}, {0xE5}, {0xE4}}},
		{"\r\n\u0600\U0001f600\U0001f3fd", [][]int{{'\r', '\n'}, {0x600, 0x1F600, 0x1F3FD}}},
		{"\xe2\u0301\xff", [][]int{{0xFFFD, 0x301}, {0xFFFD}}},
	} {
		if clusters := flow.Clusters([]byte(x.b)); !same(clusters, x.clusters) {
			t.Errorf("Clusters of %+q are %#x; want %#x", x.b, clusters, x.clusters)
		}
		if values, want := flow.Values([]byte(x.b)), slices.Concat(x.clusters...); !slices.Equal(values, want) {
			t.Errorf("Values of %+q are %#x; want %#x", x.b, values, want)
		}
	}
}

// Every value, alone, and all calls at each that may become another one, behind a head and ahead of a mark.
func TestEveryValue(t *testing.T) {
	for r := range api.MaxRune + 1 {
		b := []byte(text(r))
		values := flow.Values(b)
		if want := wantForm(b); !slices.Equal(values, want) {
			t.Fatalf("Values of %#x are %#x; want %#x", r, values, want)
		}
		if f, want := flow.F(b), wantF(wantTexts(wantClusters(values))); !bytes.Equal(f, want) {
			t.Fatalf("F of %#x is % x; want % x", r, f, want)
		}
		if r < 0x3100 || !slices.Equal(values, []int{r}) {
			check(t, []byte(text('E', r, 0x301)))
		}
	}
}

// All short rows of bytes, whatever they are: most are no text in UTF-8.
func TestShortRows(t *testing.T) {
	for _, rows := range []iter.Seq[[]byte]{sample.Lists(sample.Bytes(), 2), sample.Lists(edges, 4)} {
		for b := range rows {
			check(t, b)
		}
	}
}

func TestShortLists(t *testing.T) {
	for _, lists := range []iter.Seq[[]int]{sample.Lists(some, 2), sample.Lists(few, 3)} {
		for l := range lists {
			check(t, []byte(text(l...)))
		}
	}
}

func TestHardLists(t *testing.T) {
	for l := range sample.Hard() {
		check(t, []byte(text(l...)))
	}
}

// Of the lengths beside those at which something is cut, with what is dropped between, and without.
func TestLengths(t *testing.T) {
	for _, r := range some {
		for _, cut := range []int{0, 30, 32, 60, 64, 96, 128} {
			for n := max(cut-2, 0); n < cut+3; n++ {
				check(t, []byte(text(slices.Repeat([]int{r}, n)...)))
				check(t, []byte(text(slices.Repeat([]int{r, 0xAD}, n)...)))
			}
		}
	}
}

// Cut anywhere, and begun anywhere: in the middle of a form, of a cluster, of a row.
func TestCutAnywhere(t *testing.T) {
	b := []byte("Stra\u00dfe \uff21\u030a\u0323" + marks(32) + "\r\n\u1100\u1161\u11a8\U0001f1e9\U0001f1ea\U0001f1eb\u00adE\u034f\u0301\xe2\x82\xffz" + strings.Repeat("\U0001f3fd", 33))
	for k := range len(b) + 1 {
		check(t, b[:k])
		check(t, b[k:])
	}
}

// P14.2

// What is alike but for its case.
func TestCaseByHand(t *testing.T) {
	for _, l := range [][]string{
		{"pentrough", "PENTROUGH", "PenTrough"},
		{"stra\u00dfe", "STRASSE", "Stra\u017f\u017fe", "\uff33\uff34\uff32\uff21\u00df\uff25"},
		{"\u00e9", "\u00c9", "e\u0301", "E\u0301", "E\u00ad\u0301"},
		{"\u1ead", "\u1eac", "A\u0302\u0323", "a\u0323\u0302", "\u00c2\u0323", "\u1ea0\u0302"},
		{"\u00e5", "\u00c5", "\u212b", "A\u030a"},
		{"\u03c3", "\u03c2", "\u03a3"},
		{"i\u0307", "I\u0307", "\u0130"},
		{"\u0390", "\u03aa\u0301", "\u03ca\u0301", "\u03b9\u0308\u0301"},
		{"\u02bcn", "\u0149", "\u02bcN"},
		{"iv", "IV", "\u2163", "\u2173"},
		{"q" + marks(31), "Q" + marks(31), "Q" + marks(30) + "\u034f\u0301"},
	} {
		for _, other := range l {
			if f, g := flow.F([]byte(l[0])), flow.F([]byte(other)); !bytes.Equal(f, g) {
				t.Errorf("F of %+q is % x, and of %+q % x", l[0], f, other, g)
			}
		}
	}
}

// checkCase holds that values become the same with their case and without it.
func checkCase(t *testing.T, l ...int) {
	t.Helper()
	folded := casing.All(l)
	if f, g := flow.F([]byte(text(l...))), flow.F([]byte(text(folded...))); !bytes.Equal(f, g) {
		t.Fatalf("F of %#x is % x, and without its case, of %#x, % x", l, f, folded, g)
	}
}

// moved: is 345 in what values are made of? It is a mark, and without its case it is none: so with its case, which is taken away behind the form, it goes behind the marks that follow it, and without it stays where it is.
func moved(l []int) bool { return slices.Contains(nfkc.Made(l), 0x345) }

func TestCaseIsGone(t *testing.T) {
	for r := range api.MaxRune + 1 {
		if folded := casing.Fold(r); !slices.Equal(folded, []int{r}) {
			checkCase(t, r)
			checkCase(t, 'E', r, r, 0x200D, r)
			if !moved([]int{r}) {
				checkCase(t, r, 0x301, r, 0x323, 0x302, r)
			}
		}
	}
	for _, lists := range []iter.Seq[[]int]{sample.Lists(some, 3), sample.Hard()} {
		for l := range lists {
			if !moved(l) {
				checkCase(t, l...)
			}
		}
	}
}

// What was a form already, without a case, and without what is dropped, stays, and its clusters are framed as they are.
func TestFormsStay(t *testing.T) {
	forms := 0
	for _, lists := range []iter.Seq[[]int]{sample.Lists(some, 3), sample.Hard()} {
		for l := range lists {
			if slices.Contains(l, -1) || !nfkc.Is(l) || !slices.Equal(casing.All(l), l) || slices.ContainsFunc(l, prop.Drops) {
				continue // -1 has no form in UTF-8
			}
			forms++
			b := []byte(text(l...))
			if values := flow.Values(b); !slices.Equal(values, l) {
				t.Fatalf("of %#x, a form already, the values are %#x", l, values)
			}
			if f, want := flow.F(b), wantF(wantTexts(wantClusters(l))); !bytes.Equal(f, want) {
				t.Fatalf("F of %#x, a form already, is % x; want % x", l, f, want)
			}
		}
	}
	if forms < 1000 {
		t.Errorf("only %d lists were forms", forms)
	}
}

// Great texts end as soon, for their length.
func TestGreatTexts(t *testing.T) {
	for _, x := range []struct{ b, f string }{
		{"A", "\x01a"}, {"E\u0301", "\x02\u00e9"}, {"\u00df", "\x01s\x01s"}, {"\u1100\u1161\u11a8", "\x03\uac01"}, {"\xff", "\x03\ufffd"},
		{"\u00ad", ""}, {"\r\n", "\x02\r\n"}, {"Q" + marks(31), "\x3fq" + marks(30) + "\u034f\x02\u0301"},
	} {
		n := 1<<18/len(x.b) + 1
		if f := flow.F([]byte(strings.Repeat(x.b, n))); string(f) != strings.Repeat(x.f, n) {
			t.Errorf("F of %d times %+q is %d bytes; want %d", n, x.b, len(f), n*len(x.f))
		}
	}
	for _, b := range []string{text(sample.Strewn(1 << 13)...), marks(1 << 13), strings.Repeat("\U0001f1e9", 1<<13), strings.Repeat("\u0600", 1<<13), strings.Repeat("\xf0\x9f\x98", 1<<13)} {
		check(t, []byte(b))
	}
}

// P1, R3

// Nothing is kept: who changes an answer changes no other one, nor what was handed in, nor what stands behind this in its memory.
func TestAnswersApart(t *testing.T) {
	whole := []byte("E\u0301\u0323q\u0301\u00df\xff\r\nAB\u1100\u1161" + marks(40))
	for k := range len(whole) {
		spare := slices.Clone(whole)
		b := spare[:k]
		values, f, clusters, texts := flow.Values(b), flow.F(b), flow.Clusters(b), flow.Texts(b)
		wantC := wantClusters(wantForm(b))
		wantT := wantTexts(wantC)
		clear(values[:cap(values)])
		clear(f[:cap(f)])
		for k, c := range clusters {
			if !slices.Equal(c, wantC[k]) {
				t.Fatalf("who changed other answers changed cluster %d of % x to %#x; want %#x", k, b, c, wantC[k])
			}
			clear(c[:cap(c)])
		}
		clear(clusters[:cap(clusters)])
		if !bytes.Equal(spare, whole) {
			t.Fatalf("the calls of % x, and who changed their answers, made of it, and of what stands behind it, % x", whole[:k], spare)
		}
		check(t, b)
		clear(spare)
		if !slices.Equal(texts, wantT) {
			t.Fatalf("who changed % x changed its texts to %+q; want %+q", whole[:k], texts, wantT)
		}
		clear(texts[:cap(texts)])
		check(t, whole[:k])
	}
}

// The calls of several that go at once are as those of one, and those of what is no text leave nothing behind.
func TestCallsAtOnce(t *testing.T) {
	given := []byte("E\u0301\u00df")
	var all sync.WaitGroup
	for range 8 {
		all.Go(func() {
			for c := range 256 {
				wrong := bytes.Repeat([]byte{byte(c), 0xF0, 0xCC}, 40)
				flow.Values(wrong)
				flow.F(wrong)
				flow.Clusters(wrong)
				flow.Texts(wrong)
				values, f, clusters, texts := flow.Values(given), flow.F(given), flow.Clusters(given), flow.Texts(given)
				if !slices.Equal(values, []int{0xE9, 's', 's'}) || string(f) != "\x02\u00e9\x01s\x01s" || len(clusters) != 3 || !slices.Equal(texts, []string{"\u00e9", "s", "s"}) {
					t.Errorf("behind % x, of %+q are told %#x, % x, %#x and %+q", wrong[:3], given, values, f, clusters, texts)
					return
				}
			}
		})
	}
	all.Wait()
}
