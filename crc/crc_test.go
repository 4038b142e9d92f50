package crc_test

import (
	"bytes"
	"hash/crc32"
	"math"
	"testing"

	"torpor/api"
	"torpor/crc"
)

// slow is the register behind bytes, bit by bit, by the chapter's words and without any table.
func slow(c uint32, b []byte) uint32 {
	for _, x := range b {
		c ^= uint32(x)
		for range 8 {
			if c%2 == 1 {
				c = c/2 ^ 0xedb88320
			} else {
				c /= 2
			}
		}
	}
	return c
}

// slowSum is what Sum must answer.
func slowSum(b []byte) uint32 {
	return slow(0xffffffff, b) ^ 0xffffffff
}

// slowUpdate is what Update must answer, by division instead of shifts.
func slowUpdate(t [256]uint32, c uint32, b []byte) uint32 {
	for _, x := range b {
		lowest := c % 256
		c = c/256 ^ t[lowest^uint32(x)]
	}
	return c
}

// mixed is n bytes without much order, the same ones each time.
func mixed(n int) []byte {
	list := make([]byte, n)
	x := uint32(n)
	for i := range list {
		x = x*1664525 + 1013904223
		list[i] = byte(x >> 24)
	}
	return list
}

// texts are no bytes, few, and many: all 0, all set, and mixed.
func texts() [][]byte {
	list := [][]byte{nil, {}, []byte("a"), []byte("123456789"), []byte("987654321"), {0, 1, 0}, {0x80}, {1, 0x80}}
	for _, n := range []int{1, 2, 3, 4, 5, 8, 255, 256, 257, api.MaxBody - 1, api.MaxBody, api.MaxBody + 1} {
		list = append(list, make([]byte, n), bytes.Repeat([]byte{0xff}, n), mixed(n))
	}
	return list
}

// words are 32 bits at the ends, single bits, and some between.
func words() []uint32 {
	list := []uint32{0, 7, 0xff, 0x103, 0xedb88320, 0xcbf43926, 0x12345678, 0x7fffffff, 0x80000001, math.MaxUint32 - 1, math.MaxUint32}
	for bit := range 32 {
		list = append(list, 1<<bit)
	}
	return list
}

// tables are the table, another polynomial's, and some that are none's.
func tables() map[string][256]uint32 {
	var same, rising, wild [256]uint32
	x := uint32(1)
	for i := range wild {
		x = x*1664525 + 1013904223
		same[i], rising[i], wild[i] = 0x80402010, uint32(i)<<12, x
	}
	return map[string][256]uint32{
		"the table": crc.Table(), "nothing": {}, "same": same, "rising": rising, "wild": wild,
		"another polynomial's": *crc32.MakeTable(crc32.Castagnoli),
	}
}

// P3.1: Table, by entries written out and by each byte's way through the register.
func TestTable(t *testing.T) {
	table := crc.Table()
	for i, want := range map[int]uint32{
		0: 0, 1: 0x77073096, 2: 0xee0e612c, 3: 0x990951ba, 4: 0x076dc419, 8: 0x0edb8832, 16: 0x1db71064, 32: 0x3b6e20c8, 64: 0x76dc4190,
		127: 0xc0ba6cad, 128: 0xedb88320, 254: 0x5a05df1b, 255: 0x2d02ef8d,
	} {
		if table[i] != want {
			t.Errorf("entry %d is %08x, not %08x", i, table[i], want)
		}
	}
	for i, got := range table {
		if want := slow(uint32(i), []byte{0}); got != want {
			t.Errorf("entry %d is %08x, not %08x", i, got, want)
		}
	}
}

// P3.1: Update, by any table, from any register on.
func TestUpdate(t *testing.T) {
	for name, table := range tables() {
		for _, c := range words() {
			for _, b := range [][]byte{nil, {}, {0}, {0xff}, {0, 2}, []byte("123456789"), mixed(300)} {
				if got, want := crc.Update(table, c, b), slowUpdate(table, c, b); got != want {
					t.Errorf("%s, from %08x, %d bytes: %08x, not %08x", name, c, len(b), got, want)
				}
			}
		}
	}
}

// P3.1: Update by a table of one entry, by answers written out.
func TestUpdateWrittenOut(t *testing.T) {
	var own [256]uint32
	own[3] = 0x80000001
	for _, c := range []struct {
		from uint32
		b    []byte
		want uint32
	}{
		{0x0103, nil, 0x0103}, {0x0103, []byte{}, 0x0103}, {0x0103, []byte{0}, 0x80000000}, {0x0103, []byte{0, 2}, 0x00800000},
		{0x0103, []byte{3}, 1}, {0, []byte{3}, 0x80000001}, {0x80000001, []byte{2}, 0x80000001 ^ 0x00800000},
		{0xffffffff, []byte{0xfc}, 0x80000001 ^ 0x00ffffff}, {0xffffffff, []byte{0, 0, 0, 0}, 0},
	} {
		if got := crc.Update(own, c.from, c.b); got != c.want {
			t.Errorf("from %08x, %v: %08x, not %08x", c.from, c.b, got, c.want)
		}
	}
}

// P3.1: Update by the table does what eight times do for each byte.
func TestUpdateByTable(t *testing.T) {
	for _, b := range texts() {
		for _, c := range []uint32{0, 1, 0x12345678, math.MaxUint32} {
			if got, want := crc.Update(crc.Table(), c, b), slow(c, b); got != want {
				t.Errorf("from %08x, %d bytes: %08x, not %08x", c, len(b), got, want)
			}
		}
	}
}

// P3.1: Sum, by answers written out: no bytes, and the chapter's example, too.
func TestSumWrittenOut(t *testing.T) {
	for s, want := range map[string]uint32{
		"": 0, "123456789": 0xcbf43926, "987654321": 0x015f0201, "a": 0xe8b7be43, "abc": 0x352441c2,
		"\x00": 0xd202ef8d, "\xff": 0xff000000, "\x00\x00\x00\x00": 0x2144df1c, "\xff\xff\xff\xff": 0xffffffff,
	} {
		if got := crc.Sum([]byte(s)); got != want {
			t.Errorf("%q: %08x, not %08x", s, got, want)
		}
	}
	if got := crc.Sum(nil); got != 0 {
		t.Errorf("nil: %08x", got)
	}
	if got := crc.Sum(make([]byte, api.MaxBody)); got != 0x953675c7 {
		t.Errorf("65535 times 0: %08x", got)
	}
	if got := crc.Sum(make([]byte, api.MaxBody+1)); got != 0xd7978eeb {
		t.Errorf("65536 times 0: %08x", got)
	}
}

// P3.1: Sum, bit by bit, and as others reckon it.
func TestSum(t *testing.T) {
	for _, b := range texts() {
		got := crc.Sum(b)
		if want := slowSum(b); got != want {
			t.Errorf("%d bytes: %08x, not %08x", len(b), got, want)
		}
		if want := crc32.ChecksumIEEE(b); got != want {
			t.Errorf("%d bytes: %08x, as others reckon %08x", len(b), got, want)
		}
	}
}

// P3.1: Join of any two parts is the whole's sum, where the second one has at most 65535 bytes.
func TestJoin(t *testing.T) {
	for _, first := range texts() {
		for _, second := range texts() {
			whole := crc32.Update(crc32.ChecksumIEEE(first), crc32.IEEETable, second)
			if len(second) > api.MaxBody {
				whole = 0
			}
			if got := crc.Join(crc32.ChecksumIEEE(first), crc32.ChecksumIEEE(second), len(second)); got != whole {
				t.Errorf("%d and %d bytes: %08x, not %08x", len(first), len(second), got, whole)
			}
		}
	}
}

// P3.1: Join from any sum on: each word is the sum of some four bytes.
func TestJoinAnySum(t *testing.T) {
	for _, a := range words() {
		for _, second := range [][]byte{nil, {}, {0}, {0xff}, {0, 0}, []byte("123456789"), mixed(300), mixed(api.MaxBody)} {
			want := ^slow(^a, second)
			if got := crc.Join(a, slowSum(second), len(second)); got != want {
				t.Errorf("%08x and %d bytes: %08x, not %08x", a, len(second), got, want)
			}
		}
	}
}

// P3.1: Join to any sum: four bytes that have it are found by going back through the register.
func TestJoinToAnySum(t *testing.T) {
	for _, b := range words() {
		second := fourBytes(b)
		if slowSum(second) != b {
			t.Fatalf("%v have the sum %08x, not %08x", second, slowSum(second), b)
		}
		for _, first := range [][]byte{nil, {7}, []byte("123456789")} {
			want := slowSum(append(bytes.Clone(first), second...))
			if got := crc.Join(slowSum(first), b, 4); got != want {
				t.Errorf("%v and %v: %08x, not %08x", first, second, got, want)
			}
		}
	}
}

// fourBytes are those four whose sum is c.
func fourBytes(c uint32) []byte {
	c ^= 0xffffffff
	for range 32 {
		// Shifted down, the highest bit is 0: it is set only where the bit that went was.
		if c >= 1<<31 {
			c = (c^0xedb88320)*2 + 1
		} else {
			c *= 2
		}
	}
	c ^= 0xffffffff
	return []byte{byte(c), byte(c >> 8), byte(c >> 16), byte(c >> 24)}
}

// P3.1: Join is 0 where there can't be so many bytes.
func TestJoinWrongNumber(t *testing.T) {
	for _, n := range []int{
		-1, -2, -255, -256, -api.MaxBody, -api.MaxBody - 1, -1<<16 + 5, math.MinInt32, math.MinInt, math.MinInt + 1, math.MinInt + 5,
		api.MaxBody + 1, api.MaxBody + 2, 1<<16 + 5, 1 << 17, math.MaxInt32, math.MaxInt - 5, math.MaxInt,
	} {
		for _, a := range words() {
			if got := crc.Join(a, 9, n); got != 0 {
				t.Errorf("Join(%08x, 9, %d) = %08x", a, n, got)
			}
			if got := crc.Join(7, a, n); got != 0 {
				t.Errorf("Join(7, %08x, %d) = %08x", a, n, got)
			}
		}
	}
}

// P3.1, with the rules that what is handed in is not changed, and that nothing is kept from call to call.
func TestNothingChanges(t *testing.T) {
	room := mixed(40)
	was := bytes.Clone(room)
	b := room[5:30]
	for range 3 {
		table := crc.Table()
		if got := crc.Update(table, 0xffffffff, b) ^ 0xffffffff; got != slowSum(was[5:30]) {
			t.Errorf("Update: %08x", got)
		}
		if got := crc.Sum(b); got != slowSum(was[5:30]) {
			t.Errorf("Sum: %08x", got)
		}
		if got := crc.Join(crc.Sum(b[:9]), crc.Sum(b[9:]), 16); got != slowSum(was[5:30]) {
			t.Errorf("Join: %08x", got)
		}
		if !bytes.Equal(room, was) {
			t.Fatalf("%v, not %v", room, was)
		}
		// A table that was answered is its receiver's own: what becomes of it is none of the next call's.
		table[0], table[1], table[255] = 1, 2, 3
	}
}

// P3.2: a register behind two parts is the one behind the second part, from the one behind the first part on.
func TestPartByPart(t *testing.T) {
	b := mixed(65)
	for name, table := range tables() {
		for _, c := range words() {
			whole := crc.Update(table, c, b)
			for cut := range len(b) + 1 {
				if got := crc.Update(table, crc.Update(table, c, b[:cut]), b[cut:]); got != whole {
					t.Errorf("%s, from %08x, cut at %d: %08x, not %08x", name, c, cut, got, whole)
				}
			}
		}
	}
}

// P3.2: the same of long parts, and byte by byte.
func TestPartByPartLong(t *testing.T) {
	b := mixed(2*api.MaxBody + 1)
	for name, table := range tables() {
		whole := crc.Update(table, 0xffffffff, b)
		for _, cut := range []int{0, 1, 255, 256, api.MaxBody - 1, api.MaxBody, api.MaxBody + 1, len(b) - 1, len(b)} {
			if got := crc.Update(table, crc.Update(table, 0xffffffff, b[:cut]), b[cut:]); got != whole {
				t.Errorf("%s, cut at %d: %08x, not %08x", name, cut, got, whole)
			}
		}
		c := uint32(0xffffffff)
		for i := range b {
			c = crc.Update(table, c, b[i:i+1])
		}
		if c != whole {
			t.Errorf("%s, byte by byte: %08x, not %08x", name, c, whole)
		}
	}
}

// checkEachByte tells of a place in b where two bytes make one sum, or one register.
func checkEachByte(t *testing.T, b []byte, at int) {
	t.Helper()
	b = bytes.Clone(b)
	table := crc.Table()
	sums, registers := map[uint32]byte{}, map[uint32]byte{}
	for x := range 256 {
		b[at] = byte(x)
		sum, register := crc.Sum(b), crc.Update(table, 0x12345678, b)
		if y, ok := sums[sum]; ok {
			t.Errorf("%d and %d at %d of %d bytes have one sum, %08x", x, y, at, len(b), sum)
		}
		if y, ok := registers[register]; ok {
			t.Errorf("%d and %d at %d of %d bytes have one register, %08x", x, y, at, len(b), register)
		}
		sums[sum], registers[register] = byte(x), byte(x)
	}
}

// P3.2: a byte that is another one makes another sum: every byte put for every other one, at each place.
func TestEachByteCounts(t *testing.T) {
	for _, b := range [][]byte{{0}, {0xff, 0}, []byte("123456789"), make([]byte, 16), bytes.Repeat([]byte{0xff}, 16), mixed(40)} {
		for at := range b {
			checkEachByte(t, b, at)
		}
	}
	long := mixed(api.MaxBody)
	for _, at := range []int{0, api.MaxBody / 2, api.MaxBody - 1} {
		checkEachByte(t, long, at)
	}
}
