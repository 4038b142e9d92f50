package varint_test

import (
	"bytes"
	"math"
	"math/big"
	"slices"
	"testing"

	"torpor/api"
	"torpor/varint"
)

// numbers rise: those around each power of two, so also where a byte more is wanted, and some between.
func numbers() []uint64 {
	list := []uint64{0, 300, 0x0102030405060708, 0x8040201008040201, math.MaxUint64 - 1, math.MaxUint64}
	for bit := range 64 {
		power := uint64(1) << bit
		list = append(list, power-1, power, power+1, power+power/3, power+power/2)
	}
	slices.Sort(list)
	return slices.Compact(list)
}

// signed are the numbers with a sign that are as far from 0 as numbers, on both sides.
func signed() []int64 {
	list := []int64{math.MinInt64, math.MinInt64 + 1, math.MaxInt64 - 1, math.MaxInt64}
	for _, x := range numbers() {
		if x <= math.MaxInt64 {
			list = append(list, int64(x), -int64(x))
		}
	}
	slices.Sort(list)
	return slices.Compact(list)
}

// groups is a number's bytes by division.
func groups(x uint64) []byte {
	var list []byte
	for x/128 != 0 {
		list = append(list, 128+byte(x%128))
		x /= 128
	}
	return append(list, byte(x))
}

// value is the number of some bytes, by the sum of their powers.
func value(list []byte) uint64 {
	sum := new(big.Int)
	for i, c := range list {
		power := new(big.Int).Exp(big.NewInt(128), big.NewInt(int64(i)), nil)
		sum.Add(sum, power.Mul(power, big.NewInt(int64(c%128))))
	}
	return sum.Uint64()
}

// turned is 0, 1, 2, 3, .. for 0, -1, 1, -2, .., reckoned where no number is too great.
func turned(x int64) uint64 {
	y := new(big.Int).Mul(big.NewInt(x), big.NewInt(2))
	if x < 0 {
		y.Sub(big.NewInt(-1), y)
	}
	return y.Uint64()
}

// strings are all of up to three bytes that are of note, behind none and behind as many as bring them to the tenth.
func strings() [][]byte {
	bytesOfNote := []byte{0, 1, 2, 5, 0x7f, 0x80, 0x81, 0xff}
	var list [][]byte
	for _, begin := range [][]byte{
		nil, {0x80}, {0xac, 0xff, 0x80}, bytes.Repeat([]byte{0x80}, 7), bytes.Repeat([]byte{0xff}, 7),
		bytes.Repeat([]byte{0x80}, 8), {0xff, 0x80, 0x81, 0x82, 0xf3, 0x94, 0x80, 0xfe}, bytes.Repeat([]byte{0xff}, 9), bytes.Repeat([]byte{0x80}, 9),
	} {
		last := [][]byte{begin}
		for range 3 {
			var longer [][]byte
			for _, ahead := range last {
				for _, c := range bytesOfNote {
					longer = append(longer, append(bytes.Clone(ahead), c))
				}
			}
			list = append(list, last...)
			last = longer
		}
		list = append(list, last...)
	}
	return list
}

// wantRead is what Read must answer, by the chapter's words.
func wantRead(b []byte, at int) (x uint64, next int, e api.Errno) {
	if at < 0 || at > len(b) {
		return 0, 0, api.ErrArg
	}
	tail := b[at:]
	last := slices.IndexFunc(tail, func(c byte) bool { return c < 128 })
	nineGoOn := len(tail) >= 10 && (last < 0 || last >= 9)
	switch {
	case nineGoOn && tail[9] > 1:
		return 0, 0, api.ErrLong
	case last < 0:
		return 0, 0, api.ErrShort
	case last > 0 && tail[last] == 0:
		return 0, 0, api.ErrForm
	}
	return value(tail[:last+1]), at + last + 1, api.OK
}

// checkRead holds Read and ReadInt against the chapter's words.
func checkRead(t *testing.T, b []byte, at int) {
	t.Helper()
	wantX, wantNext, wantE := wantRead(b, at)
	if x, next, e := varint.Read(b, at); x != wantX || next != wantNext || e != wantE {
		t.Errorf("Read(%x, %d) = %#x, %d, %v, not %#x, %d, %v", b, at, x, next, e, wantX, wantNext, wantE)
	}
	x, next, e := varint.ReadInt(b, at)
	if turned(x) != wantX || next != wantNext || e != wantE {
		t.Errorf("ReadInt(%x, %d) = %d, %d, %v, not %#x turned back, %d, %v", b, at, x, next, e, wantX, wantNext, wantE)
	}
}

// P2.1: Size, by numbers written out and by division.
func TestSize(t *testing.T) {
	for x, want := range map[uint64]int{
		0: 1, 1: 1, 1<<7 - 1: 1,
		1 << 7: 2, 300: 2, 1<<14 - 1: 2,
		1 << 14: 3, 1<<21 - 1: 3,
		1 << 21: 4, 1<<28 - 1: 4,
		1 << 28: 5, 1<<35 - 1: 5,
		1 << 35: 6, 1<<42 - 1: 6,
		1 << 42: 7, 1<<49 - 1: 7,
		1 << 49: 8, 1<<56 - 1: 8,
		1 << 56: 9, 1<<63 - 1: 9,
		1 << 63: 10, math.MaxUint64: 10,
	} {
		if got := varint.Size(x); got != want {
			t.Errorf("Size(%#x) = %d, not %d", x, got, want)
		}
	}
	for _, x := range numbers() {
		if got := varint.Size(x); got != len(groups(x)) {
			t.Errorf("Size(%#x) = %d, not %d", x, got, len(groups(x)))
		}
	}
}

// P2.1: Append, also the chapter's example.
func TestAppend(t *testing.T) {
	for x, want := range map[uint64]string{
		0: "\x00", 1: "\x01", 127: "\x7f", 128: "\x80\x01", 129: "\x81\x01", 300: "\xac\x02", 16383: "\xff\x7f", 16384: "\x80\x80\x01",
		1<<63 - 1: "\xff\xff\xff\xff\xff\xff\xff\xff\x7f", 1 << 63: "\x80\x80\x80\x80\x80\x80\x80\x80\x80\x01",
		math.MaxUint64: "\xff\xff\xff\xff\xff\xff\xff\xff\xff\x01",
	} {
		if got := varint.Append(nil, x); string(got) != want {
			t.Errorf("Append(nil, %#x) = %x, not %x", x, got, want)
		}
	}
	for _, ahead := range [][]byte{nil, {}, {9}, {0x80}, {0, 0xff, 7}} {
		for _, x := range numbers() {
			want := append(bytes.Clone(ahead), groups(x)...)
			if got := varint.Append(ahead, x); !bytes.Equal(got, want) {
				t.Errorf("Append(%x, %#x) = %x, not %x", ahead, x, got, want)
			}
		}
	}
}

// P2.1: Read and ReadInt, of many bytes at every place, and outside.
func TestRead(t *testing.T) {
	for _, b := range strings() {
		for at := -2; at <= len(b)+2; at++ {
			checkRead(t, b, at)
		}
		checkRead(t, b, math.MinInt)
		checkRead(t, b, math.MaxInt)
	}
}

// P2.1: Read, by answers written out; the first error that its words name is told.
func TestReadWrittenOut(t *testing.T) {
	nine := "\xff\xff\xff\xff\xff\xff\xff\xff\xff"
	empty := "\x80\x80\x80\x80\x80\x80\x80\x80\x80"
	for _, c := range []struct {
		b    string
		at   int
		x    uint64
		next int
		e    api.Errno
	}{
		{"\x00", 0, 0, 1, api.OK}, {"\x7f", 0, 127, 1, api.OK}, {"\xac\x02", 0, 300, 2, api.OK}, {"\xac\x02\x00", 0, 300, 2, api.OK},
		{"\xac\x02", 1, 2, 2, api.OK}, {"\x01\x00\x02", 1, 0, 2, api.OK}, {"\x80\x80\x01", 0, 16384, 3, api.OK},
		{nine[1:] + "\x7f", 0, math.MaxInt64, 9, api.OK}, {nine + "\x01", 0, math.MaxUint64, 10, api.OK}, {empty + "\x01\x05", 0, 1 << 63, 10, api.OK},
		{"", 0, 0, 0, api.ErrShort}, {"\x05", 1, 0, 0, api.ErrShort}, {"\x80", 0, 0, 0, api.ErrShort}, {"\xff\xff", 1, 0, 0, api.ErrShort},
		{nine, 0, 0, 0, api.ErrShort}, {nine + "\x01", 10, 0, 0, api.ErrShort},
		{nine + "\x02", 0, 0, 0, api.ErrLong}, {nine + "\x7f", 0, 0, 0, api.ErrLong}, {empty + "\x80", 0, 0, 0, api.ErrLong},
		{empty + "\x81\x00", 0, 0, 0, api.ErrLong}, {nine + "\xff\x00", 0, 0, 0, api.ErrLong}, {nine + nine + nine, 0, 0, 0, api.ErrLong},
		{"\x80\x00", 0, 0, 0, api.ErrForm}, {"\xff\x00", 0, 0, 0, api.ErrForm}, {"\x81\x80\x00\x01", 0, 0, 0, api.ErrForm},
		{empty + "\x00", 0, 0, 0, api.ErrForm}, {nine[1:] + "\x00", 0, 0, 0, api.ErrForm},
		{"\x01", 2, 0, 0, api.ErrArg}, {"\x01", -1, 0, 0, api.ErrArg}, {"", 1, 0, 0, api.ErrArg}, {"", math.MaxInt, 0, 0, api.ErrArg}, {"\x01", math.MinInt, 0, 0, api.ErrArg},
	} {
		if x, next, e := varint.Read([]byte(c.b), c.at); x != c.x || next != c.next || e != c.e {
			t.Errorf("Read(%x, %d) = %#x, %d, %v, not %#x, %d, %v", c.b, c.at, x, next, e, c.x, c.next, c.e)
		}
	}
	if _, _, e := varint.Read(nil, 0); e != api.ErrShort {
		t.Errorf("Read(nil, 0): %v", e)
	}
}

// P2.1, with the rule that spare room isn't b's: a number may not end there.
func TestReadNotBehindTheEnd(t *testing.T) {
	full := []byte{0x80, 0x81, 0x01, 0x00}
	for n := range len(full) {
		for at := range n + 1 {
			checkRead(t, full[:n], at)
		}
	}
}

// P2.1: Zig and Zag, by counting, by numbers written out and at the ends.
func TestTurned(t *testing.T) {
	for i := range int64(300) {
		for x, want := range map[int64]uint64{i: uint64(2 * i), -i - 1: uint64(2*i + 1)} {
			if got := varint.Zig(x); got != want {
				t.Errorf("Zig(%d) = %d, not %d", x, got, want)
			}
			if got := varint.Zag(want); got != x {
				t.Errorf("Zag(%d) = %d, not %d", want, got, x)
			}
		}
	}
	for x, want := range map[int64]uint64{
		1<<31 - 1: 1<<32 - 2, -1 << 31: 1<<32 - 1, 1 << 62: 1 << 63, -1 << 62: 1<<63 - 1,
		math.MaxInt64: math.MaxUint64 - 1, math.MinInt64: math.MaxUint64,
	} {
		if got := varint.Zig(x); got != want {
			t.Errorf("Zig(%d) = %#x, not %#x", x, got, want)
		}
		if got := varint.Zag(want); got != x {
			t.Errorf("Zag(%#x) = %d, not %d", want, got, x)
		}
	}
	for _, x := range signed() {
		if got := varint.Zig(x); got != turned(x) || varint.Zag(got) != x {
			t.Errorf("Zig(%d) = %#x, back %d", x, got, varint.Zag(got))
		}
	}
	for _, x := range numbers() {
		if got := varint.Zag(x); turned(got) != x {
			t.Errorf("Zag(%#x) = %d", x, got)
		}
	}
}

// P2.1: AppendInt, also the chapter's example.
func TestAppendInt(t *testing.T) {
	for x, want := range map[int64]string{
		0: "\x00", -1: "\x01", 1: "\x02", -3: "\x05", 63: "\x7e", -64: "\x7f", 64: "\x80\x01", -65: "\x81\x01",
		math.MaxInt64: "\xfe\xff\xff\xff\xff\xff\xff\xff\xff\x01", math.MinInt64: "\xff\xff\xff\xff\xff\xff\xff\xff\xff\x01",
	} {
		if got := varint.AppendInt(nil, x); string(got) != want {
			t.Errorf("AppendInt(nil, %d) = %x, not %x", x, got, want)
		}
	}
	for _, ahead := range [][]byte{nil, {}, {9}, {0, 0xff, 7}} {
		for _, x := range signed() {
			want := append(bytes.Clone(ahead), groups(turned(x))...)
			if got := varint.AppendInt(ahead, x); !bytes.Equal(got, want) {
				t.Errorf("AppendInt(%x, %d) = %x, not %x", ahead, x, got, want)
			}
		}
	}
}

// P2.1: ReadInt, by answers written out.
func TestReadIntWrittenOut(t *testing.T) {
	nine := "\xff\xff\xff\xff\xff\xff\xff\xff\xff"
	for _, c := range []struct {
		b    string
		at   int
		x    int64
		next int
		e    api.Errno
	}{
		{"\x00", 0, 0, 1, api.OK}, {"\x05", 0, -3, 1, api.OK}, {"\x7f\x80\x01", 1, 64, 3, api.OK}, {nine + "\x01", 0, math.MinInt64, 10, api.OK},
		{"\xfe" + nine[1:] + "\x01", 0, math.MaxInt64, 10, api.OK},
		{"\x05", 1, 0, 0, api.ErrShort}, {"\x85", 0, 0, 0, api.ErrShort}, {nine + "\x03", 0, 0, 0, api.ErrLong},
		{"\x85\x00", 0, 0, 0, api.ErrForm}, {"\x05", 2, 0, 0, api.ErrArg}, {"\x05", -1, 0, 0, api.ErrArg},
	} {
		if x, next, e := varint.ReadInt([]byte(c.b), c.at); x != c.x || next != c.next || e != c.e {
			t.Errorf("ReadInt(%x, %d) = %d, %d, %v, not %d, %d, %v", c.b, c.at, x, next, e, c.x, c.next, c.e)
		}
	}
}

// P2.1, with the rule that what is handed in is not changed: b's spare room neither.
func TestHandedInStays(t *testing.T) {
	for _, x := range numbers() {
		room := bytes.Repeat([]byte{0xaa}, 24)
		room[0], room[1], room[2] = 1, 0x82, 3
		was := bytes.Clone(room)
		b := room[:3]
		for _, got := range [][]byte{varint.Append(b, x), varint.AppendInt(b, int64(x))} {
			for i := range got {
				got[i]++
			}
		}
		varint.Read(b, int(x%5))
		varint.ReadInt(b, int(x%5))
		if !bytes.Equal(room, was) {
			t.Fatalf("x %#x: %x", x, room)
		}
	}
}

// P2.1, with the rule that what is answered is never changed later.
func TestAnsweredStays(t *testing.T) {
	b := make([]byte, 2, 32)
	first, second := varint.Append(b, 300), varint.Append(b, 301)
	third, fourth := varint.Append(first, 1), varint.AppendInt(first, 1)
	fifth := varint.AppendInt(b, -3)
	b[0], first[1] = 9, 9
	for _, c := range []struct{ got, want []byte }{
		{first, []byte{0, 9, 0xac, 2}}, {second, []byte{0, 0, 0xad, 2}},
		{third, []byte{0, 0, 0xac, 2, 1}}, {fourth, []byte{0, 0, 0xac, 2, 2}}, {fifth, []byte{0, 0, 5}},
	} {
		if !bytes.Equal(c.got, c.want) {
			t.Errorf("%x, not %x", c.got, c.want)
		}
	}
}

// P2.2: what is read has just the bytes that are written of it.
func TestOneWayToWrite(t *testing.T) {
	read := 0
	for _, b := range strings() {
		for at := range len(b) {
			x, next, e := varint.Read(b, at)
			y, nextInt, eInt := varint.ReadInt(b, at)
			if e != eInt || next != nextInt {
				t.Fatalf("%x at %d: Read %d, %v, ReadInt %d, %v", b, at, next, e, nextInt, eInt)
			}
			if e != api.OK {
				continue
			}
			read++
			if got := varint.Append(nil, x); !bytes.Equal(got, b[at:next]) || varint.Size(x) != next-at {
				t.Errorf("%x at %d is %#x, whose bytes are %x", b, at, x, got)
			}
			if got := varint.AppendInt(b[:at], y); !bytes.Equal(got, b[:next]) {
				t.Errorf("%x at %d is %d, whose bytes are %x", b, at, y, got)
			}
		}
	}
	if read == 0 {
		t.Error("nothing was read")
	}
}

// P2.2: what is written is read as it was, also one behind the other.
func TestThereAndBack(t *testing.T) {
	var b []byte
	for _, x := range numbers() {
		b = varint.AppendInt(varint.Append(b, x), int64(x))
	}
	at := 0
	for _, x := range numbers() {
		y, next, e := varint.Read(b, at)
		if y != x || next != at+varint.Size(x) || e != api.OK {
			t.Fatalf("%#x at %d comes back as %#x, %d, %v", x, at, y, next, e)
		}
		z, next, e := varint.ReadInt(b, next)
		if z != int64(x) || e != api.OK {
			t.Fatalf("%d comes back as %d, %v", int64(x), z, e)
		}
		at = next
	}
	if at != len(b) {
		t.Errorf("%d bytes are left", len(b)-at)
	}
}

// P2.2: a number that has fewer bytes is less.
func TestFewerBytesIsLess(t *testing.T) {
	list := numbers()
	for i, x := range list {
		if n := len(varint.Append(nil, x)); n != varint.Size(x) || n < 1 || n > 10 {
			t.Errorf("%#x has %d bytes, of size %d", x, n, varint.Size(x))
		}
		for _, y := range list[i:] {
			if len(varint.Append(nil, y)) < len(varint.Append(nil, x)) || varint.Size(y) < varint.Size(x) {
				t.Errorf("%#x has fewer bytes than %#x", y, x)
			}
		}
	}
}
