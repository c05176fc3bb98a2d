package frame_test

import (
	"bytes"
	"encoding/binary"
	"iter"
	"slices"
	"strings"
	"sync"
	"testing"
	"unicode/utf8"

	"pentrough/api"
	"pentrough/frame"
	"pentrough/sample"
	"pentrough/varint"
)

// bad: numbers that are no scalar values; some would be one once they are cut down to fewer bits.
var bad = append(sample.Bad(), 0xD800, 0xD801, 0xDBFF, 0xDC00, 0xDFFF, -0xD800, 1<<32+'a', -1<<32+'a', 1<<32+0xD800)

// few: values of each length of form, the first and the last ones, and two that are none.
var few = []int{0, 'e', 0x7F, 0x80, 0x301, 0x7FF, 0x800, 0xD7FF, 0xD800, 0xE000, 0xFFFD, 0xFFFF, 0x10000, 0x10FFFF, 0x110000}

// edges: bytes beside which something changes, and short lengths.
var edges = []byte{0, 1, 2, 3, 4, 'a', 0x7F, 0x80, 0x81, 0xFF}

// Texts and numbers are told by the library; what is made of them is told anew here, as near to the document's words as may be.

func text(l []int) string {
	var b []byte
	for _, r := range l {
		if r < 0 || 0x10FFFF < r {
			r = 0xFFFD
		}
		b = utf8.AppendRune(b, rune(r)) // of half of a pair this puts FFFD too
	}
	return string(b)
}

// framed tells the frame of a text that is not too long.
func framed(text string) []byte {
	return append(binary.AppendUvarint(nil, uint64(len(text))), text...)
}

func wantPut(c []int) []byte {
	if len(c) == 0 {
		return nil
	}
	return framed(text(c))
}

// wantTake looks for the frame: of all lengths that there is room for it is the one whose number b begins with.
func wantTake(b []byte) (string, int, api.Errno) {
	for size := range len(b) {
		number := binary.AppendUvarint(nil, uint64(size))
		if end := len(number) + size; end <= len(b) && bytes.HasPrefix(b, number) {
			return string(b[len(number):end]), end, api.OK
		}
	}
	if _, _, err := varint.Take(b); err != api.OK {
		return "", 0, err
	}
	return "", 0, api.ErrShort
}

func wantAll(b []byte) ([]string, int, api.Errno) {
	if len(b) == 0 {
		return nil, 0, api.OK
	}
	text, n, err := wantTake(b)
	if err != api.OK {
		return nil, 0, err
	}
	texts, more, err := wantAll(b[n:])
	return append([]string{text}, texts...), n + more, err
}

// spoil changes an answer, and whatever room stands behind it.
func spoil(b []byte) { copy(b[:cap(b)], strings.Repeat("?", cap(b))) }

// short tells bytes in a failure's message.
func short(b []byte) []byte { return b[:min(len(b), 20)] }

func checkPut(t *testing.T, c ...int) {
	t.Helper()
	if b, want := frame.Put(c), wantPut(c); !bytes.Equal(b, want) {
		t.Fatalf("Put of %d values, %#x, is %d bytes, % x; want %d, % x", len(c), c[:min(len(c), 10)], len(b), short(b), len(want), short(want))
	}
}

func checkTake(t *testing.T, b []byte, want string, wantN int, wantErr api.Errno) {
	t.Helper()
	told, n, err := frame.Take(b)
	if string(told) != want || n != wantN || err != wantErr {
		t.Fatalf("Take of %d bytes, % x, is %d bytes, % x, and %d, %d; want %d bytes, % x, and %d, %d", len(b), short(b), len(told), short(told), n, err, len(want), short([]byte(want)), wantN, wantErr)
	}
}

func checkAll(t *testing.T, b []byte, want []string, wantN int, wantErr api.Errno) {
	t.Helper()
	told, n, err := frame.All(b)
	if !slices.Equal(told, want) || n != wantN || err != wantErr {
		t.Fatalf("All of %d bytes, % x, are %d texts, %.60q, and %d, %d; want %d texts, %.60q, and %d, %d", len(b), short(b), len(told), told[:min(len(told), 10)], n, err, len(want), want[:min(len(want), 10)], wantN, wantErr)
	}
}

// check holds Take and All at some bytes, not many.
func check(t *testing.T, b []byte) {
	t.Helper()
	text, n, err := wantTake(b)
	checkTake(t, b, text, n, err)
	texts, n, err := wantAll(b)
	checkAll(t, b, texts, n, err)
}

// P13.1

// The document's example.
func TestExample(t *testing.T) {
	if b := frame.Put([]int{0x65, 0x301}); !bytes.Equal(b, []byte{0x03, 0x65, 0xCC, 0x81}) {
		t.Errorf("Put(65 301) = % x", b)
	}
}

func TestPutByHand(t *testing.T) {
	for _, x := range []struct {
		c    []int
		want string
	}{
		{nil, ""},
		{[]int{}, ""},
		{[]int{0}, "\x01\x00"},
		{[]int{'a'}, "\x01a"},
		{[]int{'a', 'b'}, "\x02ab"},
		{[]int{0xE9}, "\x02\xc3\xa9"},
		{[]int{'\r', '\n'}, "\x02\r\n"},
		{[]int{0x20AC}, "\x03\xe2\x82\xac"},
		{[]int{0xFFFD}, "\x03\xef\xbf\xbd"},
		{[]int{0x1F600}, "\x04\xf0\x9f\x98\x80"},
		{[]int{0x1F1E9, 0x1F1EA}, "\x08\xf0\x9f\x87\xa9\xf0\x9f\x87\xaa"},
		{[]int{0x10FFFF, 0}, "\x05\xf4\x8f\xbf\xbf\x00"},
		// What is no scalar value is written as FFFD.
		{[]int{-1}, "\x03\xef\xbf\xbd"},
		{[]int{0xD800}, "\x03\xef\xbf\xbd"},
		{[]int{'a', 0xDFFF, 'b'}, "\x05a\xef\xbf\xbdb"},
		{[]int{0xD83D, 0xDE00}, "\x06\xef\xbf\xbd\xef\xbf\xbd"},
		{[]int{0x110000}, "\x03\xef\xbf\xbd"},
		{[]int{1<<32 + 'a'}, "\x03\xef\xbf\xbd"},
		// As many bytes as go in one byte's digits, and one more.
		{slices.Repeat([]int{'a'}, 127), "\x7f" + strings.Repeat("a", 127)},
		{slices.Repeat([]int{'a'}, 128), "\x80\x01" + strings.Repeat("a", 128)},
		{slices.Repeat([]int{0x1F600}, 32), "\x80\x01" + strings.Repeat("\xf0\x9f\x98\x80", 32)},
		{slices.Repeat([]int{0xE9}, 150), "\xac\x02" + strings.Repeat("\xc3\xa9", 150)},
	} {
		if b := frame.Put(x.c); string(b) != x.want {
			t.Errorf("Put(%#x) = % x; want % x", x.c, b, x.want)
		}
		checkPut(t, x.c...)
	}
}

func TestPutOfEveryValue(t *testing.T) {
	for r := range sample.Numbers() {
		checkPut(t, r)
		checkPut(t, 'e', r)
	}
	for _, r := range bad {
		checkPut(t, r)
		if b := frame.Put([]int{r, 'a', r}); string(b) != "\x07\xef\xbf\xbda\xef\xbf\xbd" {
			t.Errorf("Put(%#x 61 %#x) = % x", r, r, b)
		}
	}
	checkPut(t, bad...)
}

func TestPutOfLists(t *testing.T) {
	for l := range sample.Lists(few, 4) {
		checkPut(t, l...)
	}
	for l := range sample.Hard() {
		checkPut(t, l...)
	}
}

// Bytes are counted, not values, whatever their forms are: of all small lengths, and about those whose numbers have one byte more.
func TestPutOfLengths(t *testing.T) {
	for _, r := range few {
		l := slices.Repeat([]int{r}, 1<<21+2)
		form := len(text(l[:1]))
		for n := range 300 {
			checkPut(t, l[:n]...)
		}
		for d := range 5 {
			checkPut(t, l[:1<<14/form+d-2]...)
			checkPut(t, l[:1<<21/form+d-2]...)
		}
	}
}

// The longest text that has a number, and two that have none; these would have one if their lengths were cut down to 28 bits.
func TestPutOfTheLongest(t *testing.T) {
	l := slices.Repeat([]int{0x1F600}, 1<<26+3)
	for _, n := range []int{1 << 26, len(l)} {
		if b := frame.Put(l[:n]); len(b) > 0 {
			t.Errorf("of a text of %d bytes Put tells %d, % x", 4*n, len(b), short(b))
		}
	}
	l[1<<26-1] = 0x20AC // of three bytes
	b := frame.Put(l[:1<<26])
	if len(b) != 4+api.MaxNum || !bytes.HasPrefix(b, []byte("\xff\xff\xff\x7f\xf0\x9f\x98\x80")) || !bytes.HasSuffix(b, []byte("\x98\x80\xe2\x82\xac")) {
		t.Fatalf("of %d bytes Put tells %d, % x", api.MaxNum, len(b), short(b))
	}
	told, n, err := frame.Take(b)
	if n != len(b) || err != api.OK || !bytes.Equal(told, b[4:]) {
		t.Errorf("of %d bytes are taken %d, and %d, %d", api.MaxNum, len(told), n, err)
	}
	checkTake(t, b[:len(b)-1], "", 0, api.ErrShort)
	checkAll(t, b[:len(b)-1], nil, 0, api.ErrShort)
}

func TestRefusal(t *testing.T) {
	for range 3 {
		b := frame.Refusal()
		if !bytes.Equal(b, []byte{0}) {
			t.Errorf("Refusal() = % x", b)
		}
		spoil(b) // who changes it changes no other one
	}
	checkTake(t, frame.Refusal(), "", 1, api.OK)
	checkAll(t, frame.Refusal(), []string{""}, 1, api.OK)
}

// P13.2

func TestTakeByHand(t *testing.T) {
	for _, x := range []struct {
		b, want string
		n       int
		err     api.Errno
	}{
		{"", "", 0, api.ErrShort},
		{"\x00", "", 1, api.OK},
		{"\x00\x01a", "", 1, api.OK},
		{"\x01", "", 0, api.ErrShort},
		{"\x01a", "a", 2, api.OK},
		{"\x01\x00", "\x00", 2, api.OK},
		{"\x02a", "", 0, api.ErrShort},
		{"\x02ab", "ab", 3, api.OK},
		{"\x02abc", "ab", 3, api.OK},
		{"\x03e\xcc\x81\x01f", "e\u0301", 4, api.OK},
		// Whatever the bytes are, they are told: no text in UTF-8, and numbers that are none.
		{"\x02\xff\x80\x00", "\xff\x80", 3, api.OK},
		{"\x01\xe2\x82\xac", "\xe2", 2, api.OK},
		{"\x04\xff\xff\xff\xff\xff", "\xff\xff\xff\xff", 5, api.OK},
		{"\x80", "", 0, api.ErrShort},
		{"\x80\x00", "", 0, api.ErrForm},
		{"\x81\x00a", "", 0, api.ErrForm},
		{"\x80\x80\x00", "", 0, api.ErrForm},
		{"\xff\xff\xff\x00", "", 0, api.ErrForm},
		{"\xff\xff\xff", "", 0, api.ErrShort},
		{"\xff\xff\xff\x7f", "", 0, api.ErrShort},
		{"\xff\xff\xff\x7fabc", "", 0, api.ErrShort},
		{"\x80\x80\x80\x01abc", "", 0, api.ErrShort},
		{"\x80\x80\x80\x80", "", 0, api.ErrBig},
		{"\x80\x80\x80\x80\x00", "", 0, api.ErrBig},
		{"\xff\xff\xff\xff\x01", "", 0, api.ErrBig},
		{"\x7f" + strings.Repeat("a", 126), "", 0, api.ErrShort},
		{"\x7f" + strings.Repeat("a", 127), strings.Repeat("a", 127), 128, api.OK},
		{"\x80\x01" + strings.Repeat("a", 127), "", 0, api.ErrShort},
		{"\x80\x01" + strings.Repeat("a", 128), strings.Repeat("a", 128), 130, api.OK},
		{"\x80\x01" + strings.Repeat("a", 129), strings.Repeat("a", 128), 130, api.OK},
	} {
		checkTake(t, []byte(x.b), x.want, x.n, x.err)
		check(t, []byte(x.b))
	}
	checkTake(t, nil, "", 0, api.ErrShort)
}

func TestShortRows(t *testing.T) {
	for _, rows := range []iter.Seq[[]byte]{
		sample.Lists(sample.Bytes(), 2), sample.Lists(edges, 5), sample.Lists([]byte{0, 1, 2, 0x80}, 8),
	} {
		for b := range rows {
			check(t, b)
		}
	}
}

// Of each length fewer bytes, as many, and more; whatever these are, and whatever the list has room for behind its end.
func TestTakeOfLengths(t *testing.T) {
	sizes := []int{1<<14 - 1, 1 << 14, 1<<14 + 1, 1<<21 - 1, 1 << 21, 1<<21 + 1}
	for size := range 400 {
		sizes = append(sizes, size)
	}
	for _, size := range sizes {
		for _, c := range []byte{0, 'a', 0x80, 0xFF} {
			text := strings.Repeat(string([]byte{c}), size)
			b := framed(text)
			number := len(b) - size
			for _, end := range []int{number, number + 1, number + size/2, len(b) - 2, len(b) - 1} {
				if number <= end && end < len(b) {
					checkTake(t, b[:end], "", 0, api.ErrShort)
					checkAll(t, b[:end], nil, 0, api.ErrShort)
				}
			}
			for range 3 {
				checkTake(t, b, text, number+size, api.OK)
				b = append(b, c)
			}
		}
	}
}

// A number tells more bytes than there are: none are looked for.
func TestTakeOfGreatNumbers(t *testing.T) {
	for k := 7; k <= 28; k++ {
		for d := -2; d <= 2; d++ {
			n := 1<<k + d
			if api.MaxNum < n {
				continue
			}
			for _, tail := range []string{"", "a", "\x00", "\xff\xff\xff\xff", "\x01a\x01a"} {
				b := append(varint.Put(n), tail...)
				checkTake(t, b, "", 0, api.ErrShort)
				checkAll(t, b, nil, 0, api.ErrShort)
			}
		}
	}
}

// P13.3

func TestAllByHand(t *testing.T) {
	for _, x := range []struct {
		b    string
		want []string
		n    int
		err  api.Errno
	}{
		{"", nil, 0, api.OK},
		{"\x00", []string{""}, 1, api.OK},
		{"\x00\x00\x00", []string{"", "", ""}, 3, api.OK},
		{"\x01a", []string{"a"}, 2, api.OK},
		{"\x01a\x01b", []string{"a", "b"}, 4, api.OK},
		{"\x01a\x00\x02bc", []string{"a", "", "bc"}, 6, api.OK},
		{"\x01\x01\x01\x01", []string{"\x01", "\x01"}, 4, api.OK},
		{"\x02\xc3\xa9\x01\xff\x00", []string{"é", "\xff", ""}, 6, api.OK},
		{"\x01", nil, 0, api.ErrShort},
		{"\x80", nil, 0, api.ErrShort},
		{"\x80\x00", nil, 0, api.ErrForm},
		{"\x80\x80\x80\x80\x01a", nil, 0, api.ErrBig},
		{"\x01a\x01", []string{"a"}, 2, api.ErrShort},
		{"\x01a\x02b", []string{"a"}, 2, api.ErrShort},
		{"\x01a\x80", []string{"a"}, 2, api.ErrShort},
		{"\x01a\x80\x00\x01b", []string{"a"}, 2, api.ErrForm},
		{"\x00\x80\x00", []string{""}, 1, api.ErrForm},
		{"\x01a\xff\xff\xff\xff\x01b", []string{"a"}, 2, api.ErrBig},
		{"\x01a\x00\x02bc\xff\xff\xff\x7fd", []string{"a", "", "bc"}, 6, api.ErrShort},
		// The first that is not whole ends it, whatever would be whole behind it.
		{"\x01a\x05b\x01c", []string{"a"}, 2, api.ErrShort},
	} {
		checkAll(t, []byte(x.b), x.want, x.n, x.err)
		check(t, []byte(x.b))
	}
	checkAll(t, nil, nil, 0, api.OK)
}

// some tells frames of many lengths, one behind the other, their texts, and where each one ends.
func some() ([]byte, []string, []int) {
	var b []byte
	var texts []string
	var ends []int
	for k, size := range []int{1, 0, 2, 0, 0, 3, 127, 128, 1, 129, 300, 0, 5, 1000, 1} {
		text := strings.Repeat("a\x80\xff\x00\x01"[k%5:k%5+1], size)
		texts = append(texts, text)
		b = append(b, framed(text)...)
		ends = append(ends, len(b))
	}
	return b, texts, ends
}

// Cut anywhere, as many are told as are whole, and that the next one is not.
func TestAllCutAnywhere(t *testing.T) {
	b, texts, ends := some()
	for end := range len(b) + 1 {
		whole, n, err := 0, 0, api.ErrShort
		for whole < len(ends) && ends[whole] <= end {
			n = ends[whole]
			whole++
		}
		if n == end {
			err = api.OK
		}
		checkAll(t, b[:end], texts[:whole], n, err)
	}
}

// Behind what is whole stands what is not: its error is told, as Take tells it, beside what is whole.
func TestAllAheadOfWhatIsWrong(t *testing.T) {
	b, texts, ends := some()
	for _, tail := range []string{"\x01", "\x80", "\x05abcd", "\xff\xff\xff", "\xff\xff\xff\x7f\x01a", "\x80\x00", "\xff\xff\x00\x00", "\x80\x80\x80\x80", "\xff\xff\xff\xff\x00"} {
		_, _, err := varint.Take([]byte(tail))
		if err == api.OK {
			err = api.ErrShort
		}
		for k, end := range ends {
			wrong := slices.Concat(b[:end], []byte(tail))
			checkAll(t, wrong, texts[:k+1], end, err)
			checkTake(t, wrong[end:], "", 0, err)
		}
	}
}

// P13.4

// putAll tells the frames of some lists, one behind the other, and the texts of those that have one.
func putAll(lists ...[]int) ([]byte, []string) {
	var b []byte
	var texts []string
	for _, c := range lists {
		b = append(b, frame.Put(c)...)
		if len(c) > 0 {
			texts = append(texts, text(c))
		}
	}
	return b, texts
}

func TestWhatIsPutIsTaken(t *testing.T) {
	for l := range sample.Lists(few, 2) {
		for other := range sample.Lists(few, 2) {
			b, texts := putAll(l, other, l, nil, other)
			checkAll(t, b, texts, len(b), api.OK)
			for _, text := range texts {
				n := len(framed(text))
				checkTake(t, b, text, n, api.OK)
				b = b[n:]
			}
			checkAll(t, b, nil, 0, api.OK)
		}
	}
	var lists [][]int
	for l := range sample.Hard() {
		lists = append(lists, l)
	}
	b, texts := putAll(lists...)
	checkAll(t, b, texts, len(b), api.OK)
}

// What is put is taken, whatever stands behind it.
func TestWhatIsPutIsTakenWhateverStandsBehind(t *testing.T) {
	for behind := range sample.Lists(edges, 3) {
		for _, c := range [][]int{{0}, {0x65, 0x301}, {-1}, slices.Repeat([]int{0x80}, 64), sample.Row(100)} {
			b := append(frame.Put(c), behind...)
			text := text(c)
			checkTake(t, b, text, len(framed(text)), api.OK)
			texts, n, err := wantAll(behind)
			checkAll(t, b, append([]string{text}, texts...), len(framed(text))+n, err)
		}
	}
}

// Great lists end as soon, for their length.
func TestGreatLists(t *testing.T) {
	for text, n := range map[string]int{"": 1 << 20, "a": 1 << 20, "e\u0301": 1 << 19, strings.Repeat("\xff", 128): 1 << 15, strings.Repeat("\x00", 1<<21): 8} {
		one := framed(text)
		b := bytes.Repeat(one, n)
		texts := slices.Repeat([]string{text}, n)
		checkAll(t, b, texts, len(b), api.OK)
		checkAll(t, append(b, 0x80, 0), texts, len(b), api.ErrForm)
		checkTake(t, b, text, len(one), api.OK)
	}
	for _, c := range []byte{0x80, 0xFF} {
		b := bytes.Repeat([]byte{c}, 1<<22)
		checkTake(t, b, "", 0, api.ErrBig)
		checkAll(t, b, nil, 0, api.ErrBig)
	}
}

// Nothing is kept: who changes an answer changes no other one, nor what was handed in, nor what stands behind this in its memory.
func TestAnswersApart(t *testing.T) {
	b, texts, ends := some()
	for k, end := range ends {
		given := append(slices.Clone(b[:end]), b...)
		first, n, _ := frame.Take(given[end-len(framed(texts[k])) : end])
		second, _, _ := frame.Take(given[end-len(framed(texts[k])) : end])
		all, _, _ := frame.All(given[:end])
		spoil(first)
		if string(second) != texts[k] || n != len(framed(texts[k])) || !slices.Equal(all, texts[:k+1]) || !bytes.Equal(given, slices.Concat(b[:end], b)) {
			t.Fatalf("who changed the text of frame %d made of another one %q, and of what was handed in % x", k, second, short(given))
		}
		clear(given)
		if string(second) != texts[k] || !slices.Equal(all, texts[:k+1]) {
			t.Fatalf("who changed the bytes of frame %d changed what was told of them: %q, %q", k, second, all)
		}
	}
	l := append(sample.Row(5), few...)
	for n := range l {
		given := slices.Clone(l)
		first, second := frame.Put(given[:n]), frame.Put(given[:n])
		spoil(first)
		if !bytes.Equal(second, wantPut(l[:n])) || !slices.Equal(given, l) {
			t.Fatalf("who changed a frame of %#x made of another one % x, and of what was handed in %#x", l[:n], second, given)
		}
	}
}

// P1: the calls of several that go at once are as those of one, and the wrong ones leave nothing behind.
func TestCallsAtOnce(t *testing.T) {
	var ended sync.WaitGroup
	for range 8 {
		ended.Go(func() {
			for range 200 {
				for _, r := range bad {
					frame.Put([]int{r})
					frame.Take([]byte{0x80, 0x80, 0x80, 0x80})
					frame.All([]byte{1, 'a', 0x80, 0})
					frame.Take(nil)
					b := frame.Put([]int{0x65, 0x301})
					text, n, err := frame.Take(b)
					texts, size, all := frame.All(append(b, frame.Refusal()...))
					if string(text) != "e\u0301" || n != 4 || err != api.OK || !slices.Equal(texts, []string{"e\u0301", ""}) || size != 5 || all != api.OK {
						t.Errorf("behind %#x, of % x was told %q, %d, %d, and %q, %d, %d", r, b, text, n, err, texts, size, all)
						return
					}
				}
			}
		})
	}
	ended.Wait()
}
