package varint_test

import (
	"bytes"
	"math"
	"slices"
	"sync"
	"testing"

	"pentrough/api"
	"pentrough/sample"
	"pentrough/varint"
)

// numbers that have no bytes; some of them would have some if they were cut down to 28 or 32 bits.
var bad = []int{
	-1, -2, -127, -128, -129, -300, math.MinInt, math.MinInt + 1, math.MinInt32, -1 << 28, -1<<28 + 300, -1<<32 + 300,
	1 << 28, 1<<28 + 1, 1<<28 + 300, 1 << 29, 1<<35 - 1, 1 << 35, math.MaxInt32, math.MaxUint32, 1 << 32, 1<<32 + 300,
	1 << 42, 1 << 56, 1 << 62, math.MaxInt - 1, math.MaxInt,
}

// bytes beside which something changes.
var edges = []byte{0x00, 0x01, 0x02, 0x40, 0x7F, 0x80, 0x81, 0xAC, 0xC0, 0xFE, 0xFF}

// some tells numbers that have bytes: the small ones, those beside the powers of two, and many in between.
func some(yield func(int) bool) {
	for n := range 1<<16 + 1 {
		if !yield(n) {
			return
		}
	}
	for k := 16; k <= 28; k++ {
		for n := 1<<k - 130; n < 1<<k+130; n++ {
			if n <= api.MaxNum && !yield(n) {
				return
			}
		}
	}
	for n := 0; n <= api.MaxNum; n += 101 {
		if !yield(n) {
			return
		}
	}
}

// few tells numbers of each length, with digits that are 0, all ones, and between.
func few() []int {
	return []int{
		0, 1, 2, 63, 64, 126, 127, 128, 129, 255, 256, 300, 16256, 16382, 16383, 16384, 16385, 16512, 1<<20 + 1,
		1<<21 - 1, 1 << 21, 1<<21 + 1, 1<<24 + 5, 1<<27 - 1, 1 << 27, 1<<28 - 128, 1<<28 - 2, 1<<28 - 1,
	}
}

// put is P2.1 to the letter: as few digits as there are, each a sum of its own.
func put(n int) []byte {
	powers := []int{1, 1 << 7, 1 << 14, 1 << 21, 1 << 28}
	size := 1
	for n >= powers[size] {
		size++
	}
	b := make([]byte, size)
	for k := range b {
		b[k] = byte(n / powers[k] & 127)
		if k < size-1 {
			b[k] |= 128
		}
	}
	return b
}

// take is P2.2 to the letter, and its errors in their order.
func take(b []byte) (int, int, api.Errno) {
	below := func(c byte) bool { return c < 128 }
	first := slices.IndexFunc(b, below)
	if len(b) >= 4 && !slices.ContainsFunc(b[:4], below) {
		return 0, 0, api.ErrBig
	}
	if first < 0 {
		return 0, 0, api.ErrShort
	}
	if b[first] == 0 && first != 0 {
		return 0, 0, api.ErrForm
	}
	n := 0
	for k := range first + 1 {
		n += int(b[k]&127) << (7 * k)
	}
	return n, first + 1, api.OK
}

func checkTake(t *testing.T, b []byte) {
	n, size, err := varint.Take(b)
	n0, size0, err0 := take(b)
	if n != n0 || size != size0 || err != err0 {
		t.Fatalf("Take(% x) = %d, %d, %d; want %d, %d, %d", b[:min(len(b), 20)], n, size, err, n0, size0, err0)
	}
}

// P2.1

func TestPutByHand(t *testing.T) {
	for _, x := range []struct {
		n    int
		want []byte
	}{
		{0, []byte{0}},
		{1, []byte{1}},
		{'A', []byte{0x41}},
		{127, []byte{0x7F}},
		{128, []byte{0x80, 0x01}},
		{129, []byte{0x81, 0x01}},
		{255, []byte{0xFF, 0x01}},
		{256, []byte{0x80, 0x02}},
		{300, []byte{0xAC, 0x02}},
		{4096, []byte{0x80, 0x20}},
		{16383, []byte{0xFF, 0x7F}},
		{16384, []byte{0x80, 0x80, 0x01}},
		{16385, []byte{0x81, 0x80, 0x01}},
		{1<<21 - 1, []byte{0xFF, 0xFF, 0x7F}},
		{1 << 21, []byte{0x80, 0x80, 0x80, 0x01}},
		{1<<21 + 1<<14, []byte{0x80, 0x80, 0x81, 0x01}},
		{1 << 27, []byte{0x80, 0x80, 0x80, 0x40}},
		{1<<28 - 1, []byte{0xFF, 0xFF, 0xFF, 0x7F}},
		{api.MaxNum, []byte{0xFF, 0xFF, 0xFF, 0x7F}},
	} {
		if b := varint.Put(x.n); !bytes.Equal(b, x.want) {
			t.Errorf("Put(%d) = % x; want % x", x.n, b, x.want)
		}
		if k := varint.Size(x.n); k != len(x.want) {
			t.Errorf("Size(%d) = %d; want %d", x.n, k, len(x.want))
		}
	}
}

func TestPutAndSizeOfNumbers(t *testing.T) {
	for n := range some {
		want := put(n)
		if b := varint.Put(n); !bytes.Equal(b, want) {
			t.Fatalf("Put(%d) = % x; want % x", n, b, want)
		}
		if k := varint.Size(n); k != len(want) {
			t.Fatalf("Size(%d) = %d; want %d", n, k, len(want))
		}
	}
}

func TestPutAndSizeOfOthers(t *testing.T) {
	for _, n := range bad {
		if b := varint.Put(n); len(b) != 0 {
			t.Errorf("Put(%d) = % x", n, b)
		}
		if k := varint.Size(n); k != 0 {
			t.Errorf("Size(%d) = %d", n, k)
		}
	}
}

func TestWhatIsPutStays(t *testing.T) {
	var all [][]byte
	for _, n := range few() {
		all = append(all, varint.Put(n))
	}
	for k, n := range few() {
		varint.Put(api.MaxNum)
		if !bytes.Equal(all[k], put(n)) {
			t.Errorf("Put(%d) has become % x", n, all[k])
		}
	}
}

// P2.2

func TestTakeByHand(t *testing.T) {
	for _, x := range []struct {
		b       []byte
		n, size int
		err     api.Errno
	}{
		{nil, 0, 0, api.ErrShort},
		{[]byte{}, 0, 0, api.ErrShort},
		{[]byte{0}, 0, 1, api.OK},
		{[]byte{0, 0}, 0, 1, api.OK},
		{[]byte{0, 0xFF, 0xFF, 0xFF, 0xFF}, 0, 1, api.OK},
		{[]byte{0x7F}, 127, 1, api.OK},
		{[]byte{0x80}, 0, 0, api.ErrShort},
		{[]byte{0xFF}, 0, 0, api.ErrShort},
		{[]byte{0x80, 0}, 0, 0, api.ErrForm},
		{[]byte{0x80, 0, 1}, 0, 0, api.ErrForm},
		{[]byte{0x80, 1}, 128, 2, api.OK},
		{[]byte{0xAC, 2}, 300, 2, api.OK},
		{[]byte{0xAC, 2, 0xAC, 2}, 300, 2, api.OK},
		{[]byte{0xFF, 0x7F, 0}, 16383, 2, api.OK},
		{[]byte{0x80, 0x80}, 0, 0, api.ErrShort},
		{[]byte{0x80, 0x80, 0}, 0, 0, api.ErrForm},
		{[]byte{0x80, 0x80, 0, 1}, 0, 0, api.ErrForm},
		{[]byte{0x80, 0x80, 1}, 16384, 3, api.OK},
		{[]byte{0xFF, 0xFF, 0xFF}, 0, 0, api.ErrShort},
		{[]byte{0xFF, 0xFF, 0xFF, 0}, 0, 0, api.ErrForm},
		{[]byte{0x80, 0x80, 0x80, 1}, 1 << 21, 4, api.OK},
		{[]byte{0xFF, 0xFF, 0xFF, 0x7F}, 1<<28 - 1, 4, api.OK},
		{[]byte{0xFF, 0xFF, 0xFF, 0x7F, 0x7F}, 1<<28 - 1, 4, api.OK},
		{[]byte{0x80, 0x80, 0x80, 0x80}, 0, 0, api.ErrBig},
		{[]byte{0x80, 0x80, 0x80, 0x80, 0}, 0, 0, api.ErrBig},
		{[]byte{0x80, 0x80, 0x80, 0x80, 1}, 0, 0, api.ErrBig},
		{[]byte{0xFF, 0xFF, 0xFF, 0xFF, 0x7F}, 0, 0, api.ErrBig},
	} {
		if n, size, err := varint.Take(x.b); n != x.n || size != x.size || err != x.err {
			t.Errorf("Take(% x) = %d, %d, %d; want %d, %d, %d", x.b, n, size, err, x.n, x.size, x.err)
		}
	}
}

func TestTakeOfAllShortRows(t *testing.T) {
	for b := range sample.Lists(sample.Bytes(), 3) {
		checkTake(t, b)
	}
}

func TestTakeOfEdges(t *testing.T) {
	for b := range sample.Lists(edges, 6) {
		checkTake(t, b)
	}
}

func TestTakeOfLongRows(t *testing.T) {
	for _, c := range edges {
		b := bytes.Repeat([]byte{c}, 1<<20)
		checkTake(t, b)
		for k := range 6 {
			b[k] = 0x80
			checkTake(t, b)
		}
	}
}

func TestTakeOfEachLastByte(t *testing.T) {
	for k := range 6 {
		for c := range 256 {
			for _, before := range []byte{0x80, 0x81, 0xFF} {
				checkTake(t, append(bytes.Repeat([]byte{before}, k), byte(c)))
			}
		}
	}
}

// What a list has room for behind its end is none of it.
func TestTakeLooksNoFurtherThanItsEnd(t *testing.T) {
	b := varint.Put(api.MaxNum)
	for k := range len(b) {
		if n, size, err := varint.Take(b[:k]); n != 0 || size != 0 || err != api.ErrShort {
			t.Errorf("Take(% x) = %d, %d, %d", b[:k], n, size, err)
		}
	}
	b = []byte{0x80, 0x80, 0x80, 0x80, 0x01}
	if n, size, err := varint.Take(b[:3]); n != 0 || size != 0 || err != api.ErrShort {
		t.Errorf("Take(% x) = %d, %d, %d", b[:3], n, size, err)
	}
}

func TestTakeLeavesItsBytes(t *testing.T) {
	for b := range sample.Lists([]byte{0x00, 0x01, 0x7F, 0x80, 0xFF}, 5) {
		keep := slices.Clone(b)
		varint.Take(b)
		if !bytes.Equal(b, keep) {
			t.Fatalf("Take(% x) changed it to % x", keep, b)
		}
	}
}

// P2.3

func TestWhatIsPutIsTaken(t *testing.T) {
	for n := range some {
		b := varint.Put(n)
		if n0, size, err := varint.Take(b); n0 != n || size != len(b) || err != api.OK {
			t.Fatalf("of %d, put, is taken %d, %d, %d", n, n0, size, err)
		}
	}
}

func TestWhatIsPutIsTakenWhateverStandsBehind(t *testing.T) {
	behind := [][]byte{bytes.Repeat([]byte{0xFF}, 10000), make([]byte, 10000)}
	behind = slices.AppendSeq(behind, sample.Lists(edges, 3))
	for c := range 256 {
		behind = append(behind, []byte{byte(c)})
	}
	for _, n := range few() {
		size := varint.Size(n)
		for _, tail := range behind {
			if n0, size0, err := varint.Take(append(varint.Put(n), tail...)); n0 != n || size0 != size || err != api.OK {
				t.Fatalf("of %d, put, with %d bytes behind it, is taken %d, %d, %d", n, len(tail), n0, size0, err)
			}
		}
	}
}

func TestWhatIsTakenIsPutAsTheSame(t *testing.T) {
	for b := range sample.Lists(edges, 5) {
		n, size, err := varint.Take(b)
		if err == api.OK && !bytes.Equal(varint.Put(n), b[:size]) {
			t.Fatalf("of % x is taken %d, %d; put it is % x", b, n, size, varint.Put(n))
		}
	}
}

func TestOneNumberBehindTheOther(t *testing.T) {
	var b []byte
	for _, n := range few() {
		b = append(b, varint.Put(n)...)
	}
	for _, n := range few() {
		n0, size, err := varint.Take(b)
		if n0 != n || err != api.OK {
			t.Fatalf("where %d was put, %d is taken, %d, %d", n, n0, size, err)
		}
		b = b[size:]
	}
	if len(b) != 0 {
		t.Errorf("% x is left", b)
	}
}

// Nothing is kept: the calls of several that go at once are as those of one.
func TestCallsAtOnce(t *testing.T) {
	var all sync.WaitGroup
	for range 8 {
		all.Go(func() {
			for range 200 {
				for _, n := range few() {
					b := varint.Put(n)
					if n0, size, err := varint.Take(b); !bytes.Equal(b, put(n)) || n0 != n || size != varint.Size(n) || err != api.OK {
						t.Errorf("Put(%d) = % x, of which %d, %d, %d is taken", n, b, n0, size, err)
						return
					}
				}
			}
		})
	}
	all.Wait()
}

// P1: a wrong number, or wrong bytes, leave nothing behind.

func TestWrongOnesLeaveNothingBehind(t *testing.T) {
	for _, n := range bad {
		varint.Put(n)
		varint.Size(n)
		varint.Take(bytes.Repeat([]byte{0x80}, 100))
		varint.Take(nil)
		if b := varint.Put(300); !bytes.Equal(b, []byte{0xAC, 2}) || varint.Size(300) != 2 {
			t.Errorf("behind %d, Put(300) = % x", n, b)
		}
		if n0, size, err := varint.Take([]byte{0xAC, 2}); n0 != 300 || size != 2 || err != api.OK {
			t.Errorf("behind %d, Take(ac 02) = %d, %d, %d", n, n0, size, err)
		}
	}
}
