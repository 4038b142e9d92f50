package octet_test

import (
	"bytes"
	"math"
	"math/big"
	"testing"

	"torpor/api"
	"torpor/octet"
)

// wrongWidths lie just outside 1 to 8, and as far out as an int goes.
var wrongWidths = []int{0, 9, -1, -8, 16, 64, 256, 257, math.MinInt, math.MaxInt}

// numbers are those that just fit each width, those that just don't, and some between.
func numbers() []uint64 {
	list := []uint64{0, 1, 2, 127, 128, 258, 0x0102030405060708, 0xfffefdfcfbfaf9f8, 1 << 63, math.MaxUint64 - 1, math.MaxUint64}
	for width := 1; width < 8; width++ {
		first := uint64(1) << (8 * width)
		list = append(list, first-1, first, first+1, first*0x7f, first*0x80, first*0xff)
	}
	return list
}

// power is 256 to the width, reckoned without the bits that octet goes by.
func power(width int) *big.Int {
	return new(big.Int).Exp(big.NewInt(256), big.NewInt(int64(width)), nil)
}

// fits is what Fits must answer for a width from 1 to 8.
func fits(x uint64, width int) bool {
	return new(big.Int).SetUint64(x).Cmp(power(width)) < 0
}

// digits is a number's bytes by division, the lowest first.
func digits(x uint64, width int) []byte {
	list := make([]byte, width)
	for i := range list {
		list[i] = byte(x % 256)
		x /= 256
	}
	return list
}

// value is the number of some bytes, by the sum of their powers.
func value(list []byte) uint64 {
	sum := new(big.Int)
	for i, c := range list {
		sum.Add(sum, new(big.Int).Mul(big.NewInt(int64(c)), power(i)))
	}
	return sum.Uint64()
}

// P1.1: Fits.
func TestFits(t *testing.T) {
	for _, x := range numbers() {
		for width := 1; width <= 8; width++ {
			if got := octet.Fits(x, width); got != fits(x, width) {
				t.Errorf("Fits(%#x, %d) = %v", x, width, got)
			}
		}
		for _, width := range wrongWidths {
			if octet.Fits(x, width) {
				t.Errorf("Fits(%#x, %d) = true", x, width)
			}
		}
	}
}

// P1.1: Size, by numbers written out and by Fits' own rule.
func TestSize(t *testing.T) {
	for x, want := range map[uint64]int{
		0: 1, 1: 1, 0xff: 1,
		0x100: 2, 0xffff: 2,
		0x10000: 3, 0xffffff: 3,
		0x1000000: 4, 0xffffffff: 4,
		0x100000000: 5, 0xffffffffff: 5,
		0x10000000000: 6, 0xffffffffffff: 6,
		0x1000000000000: 7, 0xffffffffffffff: 7,
		0x100000000000000: 8, 1 << 63: 8, math.MaxUint64: 8,
	} {
		if got := octet.Size(x); got != want {
			t.Errorf("Size(%#x) = %d, not %d", x, got, want)
		}
	}
	for _, x := range numbers() {
		least := 1
		for !fits(x, least) {
			least++
		}
		if got := octet.Size(x); got != least {
			t.Errorf("Size(%#x) = %d, not %d", x, got, least)
		}
	}
}

// P1.1: Put, also the chapter's example.
func TestPut(t *testing.T) {
	if got, e := octet.Put(nil, 258, 3); e != api.OK || !bytes.Equal(got, []byte{2, 1, 0}) {
		t.Errorf("258 in three bytes: %v, %v", got, e)
	}
	for _, ahead := range [][]byte{nil, {}, {9}, {0, 255, 7}} {
		for _, x := range numbers() {
			for width := 1; width <= 8; width++ {
				got, e := octet.Put(ahead, x, width)
				if !fits(x, width) {
					if e != api.ErrLong || len(got) != 0 {
						t.Errorf("Put(%v, %#x, %d) = %v, %v, not ErrLong", ahead, x, width, got, e)
					}
					continue
				}
				want := append(bytes.Clone(ahead), digits(x, width)...)
				if e != api.OK || !bytes.Equal(got, want) {
					t.Errorf("Put(%v, %#x, %d) = %v, %v, not %v", ahead, x, width, got, e, want)
				}
			}
		}
	}
}

// P1.1: a width that may not be is told ahead of a number that doesn't fit.
func TestPutWrongWidth(t *testing.T) {
	for _, width := range wrongWidths {
		for _, x := range numbers() {
			if got, e := octet.Put([]byte{1}, x, width); e != api.ErrArg || len(got) != 0 {
				t.Errorf("Put([1], %#x, %d) = %v, %v, not ErrArg", x, width, got, e)
			}
		}
	}
}

// checkTake holds Take against the chapter's words.
func checkTake(t *testing.T, b []byte, at, width int) {
	t.Helper()
	var wantX uint64
	var wantNext int
	wantE := api.OK
	switch {
	case width < 1 || width > 8 || at < 0 || at > len(b):
		wantE = api.ErrArg
	case len(b[at:]) < width:
		wantE = api.ErrShort
	default:
		wantX, wantNext = value(b[at:at+width]), at+width
	}
	if x, next, e := octet.Take(b, at, width); x != wantX || next != wantNext || e != wantE {
		t.Errorf("Take of %d bytes, %d, %d = %#x, %d, %v, not %#x, %d, %v", len(b), at, width, x, next, e, wantX, wantNext, wantE)
	}
}

// places are all of so many bytes, those just outside, and as far out as an int goes.
func places(n int) []int {
	list := []int{math.MinInt, -8, math.MaxInt, math.MaxInt - 7}
	for at := -2; at <= n+2; at++ {
		list = append(list, at)
	}
	return list
}

// P1.1: Take, of every width at every place.
func TestTake(t *testing.T) {
	full := []byte{0xff, 1, 0x80, 0, 0xfe, 7, 0, 0xc3, 0x5a, 0xff, 0x10}
	for n := range len(full) + 1 {
		// The spare room behind b's end is not b's: it may not be read.
		b := full[:n]
		for _, at := range places(n) {
			for width := 1; width <= 8; width++ {
				checkTake(t, b, at, width)
			}
			for _, width := range wrongWidths {
				checkTake(t, b, at, width)
			}
		}
	}
	checkTake(t, nil, 0, 1)
	checkTake(t, nil, 0, 0)
	checkTake(t, nil, 1, 1)
	checkTake(t, bytes.Repeat([]byte{0xff}, 8), 0, 8)
}

// P1.1: Take, by answers written out.
func TestTakeWrittenOut(t *testing.T) {
	b := []byte{2, 1, 0, 0xff, 0xff}
	for _, c := range []struct {
		at, width int
		x         uint64
		next      int
		e         api.Errno
	}{
		{0, 1, 2, 1, api.OK}, {0, 2, 258, 2, api.OK}, {0, 3, 258, 3, api.OK},
		{0, 5, 0xffff000102, 5, api.OK}, {4, 1, 255, 5, api.OK}, {3, 2, 65535, 5, api.OK},
		{3, 3, 0, 0, api.ErrShort}, {5, 1, 0, 0, api.ErrShort}, {0, 6, 0, 0, api.ErrShort}, {5, 8, 0, 0, api.ErrShort},
		{6, 1, 0, 0, api.ErrArg}, {-1, 1, 0, 0, api.ErrArg}, {0, 0, 0, 0, api.ErrArg}, {0, 9, 0, 0, api.ErrArg}, {5, 0, 0, 0, api.ErrArg},
	} {
		if x, next, e := octet.Take(b, c.at, c.width); x != c.x || next != c.next || e != c.e {
			t.Errorf("Take(b, %d, %d) = %#x, %d, %v", c.at, c.width, x, next, e)
		}
	}
}

// checkCut holds Cut against the chapter's words.
func checkCut(t *testing.T, b []byte, at, n int) {
	t.Helper()
	var want []byte
	var wantNext int
	wantE := api.OK
	switch {
	case n < 0 || at < 0 || at > len(b):
		wantE = api.ErrArg
	case len(b[at:]) < n:
		wantE = api.ErrShort
	default:
		want, wantNext = b[at:at+n], at+n
	}
	if part, next, e := octet.Cut(b, at, n); !bytes.Equal(part, want) || next != wantNext || e != wantE {
		t.Errorf("Cut of %d bytes, %d, %d = %v, %d, %v, not %v, %d, %v", len(b), at, n, part, next, e, want, wantNext, wantE)
	}
}

// P1.1: Cut, of every length at every place.
func TestCut(t *testing.T) {
	full := []byte{5, 0, 255, 6, 6, 1, 9, 128, 3, 4, 77, 200}
	for n := range len(full) + 1 {
		b := full[:n]
		for _, at := range places(n) {
			for _, length := range places(n) {
				checkCut(t, b, at, length)
			}
		}
	}
	checkCut(t, nil, 0, 0)
	checkCut(t, nil, 0, 1)
	checkCut(t, nil, 1, 0)
}

// P1.1: Cut, by answers written out.
func TestCutWrittenOut(t *testing.T) {
	for _, c := range []struct {
		at, n int
		part  string
		next  int
		e     api.Errno
	}{
		{0, 0, "", 0, api.OK}, {2, 0, "", 2, api.OK}, {4, 0, "", 4, api.OK},
		{0, 4, "abcd", 4, api.OK}, {1, 2, "bc", 3, api.OK}, {3, 1, "d", 4, api.OK},
		{0, 5, "", 0, api.ErrShort}, {3, 2, "", 0, api.ErrShort}, {4, 1, "", 0, api.ErrShort}, {4, math.MaxInt, "", 0, api.ErrShort},
		{5, 0, "", 0, api.ErrArg}, {-1, 0, "", 0, api.ErrArg}, {0, -1, "", 0, api.ErrArg}, {4, math.MinInt, "", 0, api.ErrArg}, {9, 9, "", 0, api.ErrArg},
	} {
		part, next, e := octet.Cut([]byte("abcd"), c.at, c.n)
		if string(part) != c.part || next != c.next || e != c.e {
			t.Errorf("Cut(abcd, %d, %d) = %q, %d, %v", c.at, c.n, part, next, e)
		}
	}
}

// P1.1, with the rule that what is handed in is not changed: b's spare room neither.
func TestHandedInStays(t *testing.T) {
	for _, x := range numbers() {
		for width := -1; width <= 9; width++ {
			room := bytes.Repeat([]byte{0xaa}, 24)
			room[0], room[1], room[2] = 1, 2, 3
			was := bytes.Clone(room)
			b := room[:3]
			octet.Put(b, x, width)
			octet.Take(b, 1, width)
			part, _, _ := octet.Cut(b, 1, width)
			for i := range part {
				part[i]++
			}
			_ = append(part, 0xbb)
			if !bytes.Equal(room, was) || len(b) != 3 {
				t.Fatalf("x %#x, width %d: %v", x, width, room)
			}
		}
	}
}

// P1.1, with the rule that what is answered is never changed later.
func TestAnsweredStays(t *testing.T) {
	b := make([]byte, 2, 32)
	first, _ := octet.Put(b, 0x0101, 2)
	second, _ := octet.Put(b, 0x0202, 2)
	third, _ := octet.Put(first, 0x03, 1)
	fourth, _ := octet.Put(first, 0x04, 1)
	part, _, _ := octet.Cut(first, 1, 3)
	b[0], first[3] = 9, 9
	for _, c := range []struct{ got, want []byte }{
		{first, []byte{0, 0, 1, 9}}, {second, []byte{0, 0, 2, 2}},
		{third, []byte{0, 0, 1, 1, 3}}, {fourth, []byte{0, 0, 1, 1, 4}}, {part, []byte{0, 1, 1}},
	} {
		if !bytes.Equal(c.got, c.want) {
			t.Errorf("%v, not %v", c.got, c.want)
		}
	}
}

// P1.2: what is put is taken as it was, and leaves what stood ahead as it was.
func TestThereAndBack(t *testing.T) {
	for _, ahead := range [][]byte{nil, {7}, {0, 0, 0}, {255, 1, 254, 2, 253, 3, 252, 4, 251}} {
		for _, x := range numbers() {
			for width := octet.Size(x); width <= 8; width++ {
				b, e := octet.Put(ahead, x, width)
				if e != api.OK || len(b) != len(ahead)+width || !bytes.Equal(b[:len(ahead)], ahead) {
					t.Fatalf("Put(%v, %#x, %d) = %v, %v", ahead, x, width, b, e)
				}
				y, next, e := octet.Take(b, len(ahead), width)
				if y != x || next != len(b) || e != api.OK {
					t.Errorf("%#x in %d bytes comes back as %#x, %d, %v", x, width, y, next, e)
				}
				part, next, e := octet.Cut(b, 0, len(ahead))
				if !bytes.Equal(part, ahead) || next != len(ahead) || e != api.OK {
					t.Errorf("ahead %v comes back as %v, %d, %v", ahead, part, next, e)
				}
			}
		}
	}
}

// P1.2: numbers put one behind the other are taken in the same order.
func TestManyThereAndBack(t *testing.T) {
	var b []byte
	for i, x := range numbers() {
		width := min(8, octet.Size(x)+i%3)
		after, e := octet.Put(b, x, width)
		if e != api.OK || !bytes.Equal(after[:len(b)], b) {
			t.Fatalf("Put of %#x in %d bytes: %v", x, width, e)
		}
		b = after
	}
	at := 0
	for i, x := range numbers() {
		y, next, e := octet.Take(b, at, min(8, octet.Size(x)+i%3))
		if y != x || e != api.OK {
			t.Fatalf("%#x at %d comes back as %#x, %v", x, at, y, e)
		}
		at = next
	}
	if at != len(b) {
		t.Errorf("%d bytes are left", len(b)-at)
	}
}
