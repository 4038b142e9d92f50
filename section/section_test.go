package section_test

import (
	"bytes"
	"encoding/binary"
	"hash/crc32"
	"math"
	"slices"
	"testing"

	"torpor/api"
	"torpor/section"
)

// mixed is n bytes without much order, the same ones each time.
func mixed(n int) []byte {
	list := make([]byte, n)
	x := uint32(n)
	for i := range list {
		x = x*1664525 + 1013904223
		list[i] = byte(x >> 24)
	}
	return list
}

// sealed is bytes with their sum behind them, so also those of no section.
func sealed(b string) []byte {
	return binary.LittleEndian.AppendUint32([]byte(b), crc32.ChecksumIEEE([]byte(b)))
}

// wantBytes are a section's bytes, by the chapter's words.
func wantBytes(s api.Section) []byte {
	b := binary.AppendUvarint([]byte{s.Tag}, uint64(len(s.Body)))
	return sealed(string(append(b, s.Body...)))
}

// wantAll are what All must answer, by the chapter's words.
func wantAll(l []api.Section) ([]byte, api.Errno) {
	var b []byte
	for i, s := range l {
		switch {
		case i > 0 && s.Tag <= l[i-1].Tag, s.Tag == 0:
			return nil, api.ErrForm
		case len(s.Body) > 65535:
			return nil, api.ErrLong
		}
		b = append(b, wantBytes(s)...)
	}
	return b, api.OK
}

// wantLength is what stands at at as a length, by the words of its chapter and of the sections'.
func wantLength(b []byte, at int) (n, next int, e api.Errno) {
	x := uint64(0)
	for i := 0; ; i++ {
		if at+i >= len(b) {
			return 0, 0, api.ErrShort
		}
		c := b[at+i]
		if i == 9 && c > 1 {
			return 0, 0, api.ErrLong
		}
		x += uint64(c%128) << (7 * i)
		if c >= 128 {
			continue
		}
		if c == 0 && i > 0 {
			return 0, 0, api.ErrForm
		}
		if x > 65535 {
			return 0, 0, api.ErrLong
		}
		return int(x), at + i + 1, api.OK
	}
}

// wantRead is what Read must answer, by the chapter's words.
func wantRead(b []byte, at int) (s api.Section, next int, e api.Errno) {
	switch {
	case at < 0 || at > len(b):
		return api.Section{}, 0, api.ErrArg
	case at == len(b):
		return api.Section{}, 0, api.ErrShort
	case b[at] == 0:
		return api.Section{}, 0, api.ErrForm
	}
	n, from, e := wantLength(b, at+1)
	if e != api.OK {
		return api.Section{}, 0, e
	}
	if len(b)-from < n+4 {
		return api.Section{}, 0, api.ErrShort
	}
	if binary.LittleEndian.Uint32(b[from+n:]) != crc32.ChecksumIEEE(b[at:from+n]) {
		return api.Section{}, 0, api.ErrSum
	}
	return api.Section{Tag: b[at], Body: b[from : from+n]}, from + n + 4, api.OK
}

// wantList is what List must answer, by the chapter's words.
func wantList(b []byte) ([]api.Section, api.Errno) {
	var l []api.Section
	for at := 0; at < len(b); {
		s, next, e := wantRead(b, at)
		if e != api.OK {
			return nil, e
		}
		if len(l) > 0 && s.Tag <= l[len(l)-1].Tag {
			return nil, api.ErrForm
		}
		l, at = append(l, s), next
	}
	return l, api.OK
}

func same(a, b api.Section) bool {
	return a.Tag == b.Tag && bytes.Equal(a.Body, b.Body)
}

// short is the beginning of bytes that may be many.
func short(b []byte) []byte {
	return b[:min(len(b), 24)]
}

// checkRead holds Read against the chapter's words.
func checkRead(t *testing.T, b []byte, at int) {
	t.Helper()
	wantS, wantNext, wantE := wantRead(b, at)
	s, next, e := section.Read(b, at)
	if !same(s, wantS) || next != wantNext || e != wantE {
		t.Errorf("Read(%x.. %d, %d) = %d %x.., %d, %d, not %d %x.., %d, %d", short(b), len(b), at, s.Tag, short(s.Body), next, int(e), wantS.Tag, short(wantS.Body), wantNext, int(wantE))
	}
	if e != api.OK && s.Body != nil {
		t.Errorf("Read(%x.. %d, %d): %d, and a body beside it", short(b), len(b), at, int(e))
	}
}

// checkList holds List against the chapter's words, and what is listed against what All writes of it.
func checkList(t *testing.T, b []byte) {
	t.Helper()
	wantL, wantE := wantList(b)
	l, e := section.List(b)
	if !slices.EqualFunc(l, wantL, same) || e != wantE {
		t.Errorf("List(%x.. %d) = %d sections, %d, not %d, %d", short(b), len(b), len(l), int(e), len(wantL), int(wantE))
	}
	if e != api.OK {
		return
	}
	if again, e := section.All(l); e != api.OK || !bytes.Equal(again, b) {
		t.Errorf("List(%x.. %d), and All of it: %x.. %d, %d", short(b), len(b), short(again), len(again), int(e))
	}
}

// bodies are none, few and many bytes, also those around where a length has a byte more.
func bodies() [][]byte {
	list := [][]byte{nil, {}, {0}, {0, 0}, {0xff}, []byte("one"), []byte("123456789")}
	for _, n := range []int{127, 128, 129, 255, 256, 300, 16383, 16384, 65534, 65535} {
		list = append(list, mixed(n), make([]byte, n))
	}
	return list
}

// lists are none, one and more sections with rising tags, and those that break it somewhere.
func lists() [][]api.Section {
	list := [][]api.Section{
		nil, {},
		{{Tag: 7}}, {{Tag: 1}}, {{Tag: 255}}, {{Tag: 0}}, {{Tag: 0, Body: []byte("a")}},
		{{Tag: 1}, {Tag: 2}}, {{Tag: 1}, {Tag: 255}}, {{Tag: 254}, {Tag: 255}}, {{Tag: 127}, {Tag: 128}},
		{{Tag: 2}, {Tag: 2}}, {{Tag: 255}, {Tag: 255}}, {{Tag: 2}, {Tag: 1}}, {{Tag: 255}, {Tag: 1}}, {{Tag: 128}, {Tag: 127}},
		{{Tag: 0}, {Tag: 1}}, {{Tag: 1}, {Tag: 0}}, {{Tag: 0}, {Tag: 0}}, {{Tag: 255}, {Tag: 0}},
		{{Tag: 1}, {Tag: 3}, {Tag: 2}}, {{Tag: 1}, {Tag: 3}, {Tag: 3}}, {{Tag: 2}, {Tag: 1}, {Tag: 3}}, {{Tag: 1}, {Tag: 2}, {Tag: 1}},
		{{Tag: 1, Body: []byte("one")}, {Tag: 9, Body: []byte{}}, {Tag: 255, Body: mixed(300)}},
		{{Tag: 5, Body: mixed(65536)}}, {{Tag: 0, Body: mixed(65536)}}, {{Tag: 5}, {Tag: 5, Body: mixed(65536)}}, {{Tag: 5}, {Tag: 6, Body: mixed(65536)}},
		{{Tag: 5, Body: mixed(65536)}, {Tag: 5}}, {{Tag: 5, Body: mixed(70000)}, {Tag: 6}}, {{Tag: 6, Body: mixed(65535)}, {Tag: 7, Body: mixed(65535)}},
	}
	var every []api.Section
	for tag := 1; tag <= 255; tag++ {
		every = append(every, api.Section{Tag: byte(tag), Body: mixed(tag * tag % 200)})
	}
	return append(list, every, every[1:], append(slices.Clone(every), api.Section{Tag: 255}), append(slices.Clone(every), api.Section{}))
}

// P4.1: Append, by answers written out; the chapter's example, too.
func TestAppendWrittenOut(t *testing.T) {
	for _, c := range []struct {
		b    string
		s    api.Section
		want string
		e    api.Errno
	}{
		{"", api.Section{Tag: 7}, "\x07\x00\x38\x84\x98\x0e", api.OK},
		{"", api.Section{Tag: 7, Body: []byte{}}, "\x07\x00\x38\x84\x98\x0e", api.OK},
		{"ab", api.Section{Tag: 7}, "ab\x07\x00\x38\x84\x98\x0e", api.OK},
		{"", api.Section{Tag: 1}, "\x01\x00\xbe\x23\xc2\x58", api.OK},
		{"", api.Section{Tag: 255}, "\xff\x00\x8d\xef\xfd\xd2", api.OK},
		{"", api.Section{Tag: 1, Body: []byte("one")}, "\x01\x03one\xa0\x2e\xda\x6c", api.OK},
		{"", api.Section{}, "", api.ErrForm}, {"ab", api.Section{}, "", api.ErrForm}, {"", api.Section{Body: []byte("one")}, "", api.ErrForm},
		{"", api.Section{Tag: 1, Body: mixed(65536)}, "", api.ErrLong}, {"ab", api.Section{Tag: 255, Body: mixed(65537)}, "", api.ErrLong},
		{"", api.Section{Tag: 0, Body: mixed(65536)}, "", api.ErrForm}, {"", api.Section{Tag: 1, Body: mixed(1 << 20)}, "", api.ErrLong},
	} {
		if got, e := section.Append([]byte(c.b), c.s); string(got) != c.want || e != c.e || e != api.OK && got != nil {
			t.Errorf("Append(%x, %d %x..) = %x, %d, not %x, %d", c.b, c.s.Tag, short(c.s.Body), short(got), int(e), c.want, int(c.e))
		}
	}
	if got, e := section.Append(nil, api.Section{Tag: 7}); string(got) != "\x07\x00\x38\x84\x98\x0e" || e != api.OK {
		t.Errorf("Append(nil, 7) = %x, %d", got, int(e))
	}
}

// P4.1: Append of each tag, and of bodies up to the longest.
func TestAppend(t *testing.T) {
	for _, body := range bodies() {
		for _, tag := range []byte{1, 2, 127, 128, 254, 255} {
			s := api.Section{Tag: tag, Body: body}
			for _, b := range [][]byte{nil, {}, {9}, {0, 0xff, 7}, mixed(70000)} {
				want := append(bytes.Clone(b), wantBytes(s)...)
				if got, e := section.Append(b, s); !bytes.Equal(got, want) || e != api.OK {
					t.Errorf("Append(%x.., %d, %d bytes) = %x.., %d, not %x..", short(b), tag, len(body), short(got), int(e), short(want))
				}
			}
		}
	}
	for tag := 1; tag <= 255; tag++ {
		s := api.Section{Tag: byte(tag), Body: []byte("body")}
		if got, e := section.Append(nil, s); !bytes.Equal(got, wantBytes(s)) || e != api.OK {
			t.Errorf("Append(nil, %d) = %x, %d", tag, got, int(e))
		}
	}
}

// P4.1: Append of a longest body has a length of three bytes.
func TestAppendLongest(t *testing.T) {
	got, e := section.Append(nil, api.Section{Tag: 3, Body: mixed(65535)})
	if e != api.OK || len(got) != 1+3+65535+4 || string(got[:4]) != "\x03\xff\xff\x03" {
		t.Errorf("%x.. %d, %d", short(got), len(got), int(e))
	}
	checkRead(t, got, 0)
	checkList(t, got)
}

// P4.1: Read, by answers written out: each error in the order in which the bytes stand.
func TestReadWrittenOut(t *testing.T) {
	seven := "\x07\x00\x38\x84\x98\x0e"
	nine := "\xff\xff\xff\xff\xff\xff\xff\xff\xff"
	for _, c := range []struct {
		b    string
		at   int
		tag  byte
		body string
		next int
		e    api.Errno
	}{
		{seven, 0, 7, "", 6, api.OK}, {"\x00\xff" + seven + "\x00", 2, 7, "", 8, api.OK}, {"\x01\x03one\xa0\x2e\xda\x6c", 0, 1, "one", 9, api.OK},
		{seven, -1, 0, "", 0, api.ErrArg}, {seven, 7, 0, "", 0, api.ErrArg}, {"", 1, 0, "", 0, api.ErrArg}, {"", -1, 0, "", 0, api.ErrArg},
		{seven, math.MaxInt, 0, "", 0, api.ErrArg}, {seven, math.MinInt, 0, "", 0, api.ErrArg}, {"", math.MaxInt, 0, "", 0, api.ErrArg},
		{"", 0, 0, "", 0, api.ErrShort}, {seven, 6, 0, "", 0, api.ErrShort},
		{"\x00", 0, 0, "", 0, api.ErrForm}, {"\x00\x80\x00", 0, 0, "", 0, api.ErrForm}, {"\x00" + nine + nine, 0, 0, "", 0, api.ErrForm}, {seven, 1, 0, "", 0, api.ErrForm},
		{"\x07", 0, 0, "", 0, api.ErrShort}, {"\x07\x80", 0, 0, "", 0, api.ErrShort}, {"\x07" + nine, 0, 0, "", 0, api.ErrShort},
		{"\x07" + nine + "\x02", 0, 0, "", 0, api.ErrLong}, {"\x07" + nine + "\x80\x00", 0, 0, "", 0, api.ErrLong}, {"\x07" + nine + "\x01", 0, 0, "", 0, api.ErrLong},
		{"\x07" + nine + "\x00", 0, 0, "", 0, api.ErrForm}, {"\x07\x80\x00", 0, 0, "", 0, api.ErrForm}, {"\x07\x80\x80\x84\x00", 0, 0, "", 0, api.ErrForm},
		{"\x07\x80\x80\x04", 0, 0, "", 0, api.ErrLong}, {"\x07\x81\x80\x04", 0, 0, "", 0, api.ErrLong}, {"\x07\xff\xff\xff\xff\x0f", 0, 0, "", 0, api.ErrLong},
		{"\x07\x80\x80\x80\x80\x10", 0, 0, "", 0, api.ErrLong}, {"\x07\x80\x80\x80\x80\x80\x80\x80\x80\x80\x01", 0, 0, "", 0, api.ErrLong}, {"\x07\xff\xff\xff\xff\xff\xff\xff\xff\x7f", 0, 0, "", 0, api.ErrLong},
		{"\x07\xff\xff\x03", 0, 0, "", 0, api.ErrShort}, {"\x07\x01", 0, 0, "", 0, api.ErrShort}, {"\x07\x02a", 0, 0, "", 0, api.ErrShort}, {"\x07\x00", 0, 0, "", 0, api.ErrShort},
		{seven[:3], 0, 0, "", 0, api.ErrShort}, {seven[:5], 0, 0, "", 0, api.ErrShort}, {"\x07\x00\x00\x00\x00", 0, 0, "", 0, api.ErrShort},
		{"\x07\x00\x00\x00\x00\x00", 0, 0, "", 0, api.ErrSum}, {"\x07\x00\x0e\x98\x84\x38", 0, 0, "", 0, api.ErrSum}, {"\x08\x00\x38\x84\x98\x0e", 0, 0, "", 0, api.ErrSum},
	} {
		s, next, e := section.Read([]byte(c.b), c.at)
		if s.Tag != c.tag || string(s.Body) != c.body || next != c.next || e != c.e || e != api.OK && s.Body != nil {
			t.Errorf("Read(%x, %d) = %d %x, %d, %d, not %d %x, %d, %d", c.b, c.at, s.Tag, s.Body, next, int(e), c.tag, c.body, c.next, int(c.e))
		}
		checkRead(t, []byte(c.b), c.at)
	}
	if _, _, e := section.Read(nil, 0); e != api.ErrShort {
		t.Errorf("Read(nil, 0): %d", int(e))
	}
}

// P4.1: a length that isn't in as few bytes as can be, or is too great, is told though all else is right, the sum too.
func TestReadLengthNotRight(t *testing.T) {
	long := string(mixed(65536))
	for b, want := range map[string]api.Errno{
		string(sealed("\x07\x80\x00")): api.ErrForm, string(sealed("\x07\x83\x00one")): api.ErrForm, string(sealed("\x07\x83\x80\x00one")): api.ErrForm,
		string(sealed("\x07\x80\x80\x04" + long)): api.ErrLong, string(sealed("\x07\xff\xff\x03" + long[1:])): api.OK, string(sealed("\x07\xff\xff\x83\x00" + long[1:])): api.ErrForm,
		string(sealed("\x00\x00")): api.ErrForm, string(sealed("\x00\x03one")): api.ErrForm,
	} {
		if _, _, e := section.Read([]byte(b), 0); e != want {
			t.Errorf("Read(%x..): %d, not %d", short([]byte(b)), int(e), int(want))
		}
		if _, e := section.List([]byte(b)); e != want {
			t.Errorf("List(%x..): %d, not %d", short([]byte(b)), int(e), int(want))
		}
	}
}

// P4.1: Read at each place, and outside, of bytes that hold some sections.
func TestRead(t *testing.T) {
	all, _ := wantAll([]api.Section{{Tag: 1, Body: []byte("one")}, {Tag: 9}, {Tag: 200, Body: mixed(300)}, {Tag: 255, Body: []byte{7, 0, 0x38, 0x84, 0x98, 0x0e}}})
	for _, b := range [][]byte{all, append([]byte{0, 0xff}, all...), append(bytes.Clone(all), 0), append(bytes.Clone(all), all...), mixed(600)} {
		for at := -3; at <= len(b)+3; at++ {
			checkRead(t, b, at)
		}
		for _, at := range []int{math.MinInt, math.MinInt32, math.MaxInt32, math.MaxInt} {
			checkRead(t, b, at)
		}
	}
}

// P4.1: Read, and List, of each text of up to six bytes that are of note.
func TestReadFewBytes(t *testing.T) {
	last := [][]byte{nil}
	for range 6 {
		var longer [][]byte
		for _, ahead := range last {
			for _, c := range []byte{0, 1, 3, 0x7f, 0x80, 0xff} {
				longer = append(longer, append(bytes.Clone(ahead), c))
			}
		}
		for _, b := range longer {
			checkRead(t, b, 0)
			checkRead(t, b, len(b)/2)
			checkList(t, b)
			checkRead(t, sealed(string(b)), 0)
			checkList(t, sealed(string(b)))
		}
		last = longer
	}
}

// P4.1: bytes that end too early, wherever they end: in the tag, the length, the body, the sum.
func TestReadTooEarly(t *testing.T) {
	for _, body := range bodies() {
		b := wantBytes(api.Section{Tag: 5, Body: body})
		for n := range b {
			if n > 300 && n < len(b)-300 {
				continue
			}
			// What is cut off stands in the spare room: it may not be read there.
			s, next, e := section.Read(b[:n], 0)
			if e != api.ErrShort || s.Tag != 0 || s.Body != nil || next != 0 {
				t.Errorf("%d of %d bytes: %d, %d, %d", n, len(b), s.Tag, next, int(e))
			}
			checkList(t, b[:n])
		}
	}
}

// P4.1: All, by answers written out.
func TestAllWrittenOut(t *testing.T) {
	for _, c := range []struct {
		l    []api.Section
		want string
		e    api.Errno
	}{
		{nil, "", api.OK}, {[]api.Section{}, "", api.OK}, {[]api.Section{{Tag: 7}}, "\x07\x00\x38\x84\x98\x0e", api.OK},
		{[]api.Section{{Tag: 1, Body: []byte("one")}, {Tag: 7}, {Tag: 255}}, "\x01\x03one\xa0\x2e\xda\x6c\x07\x00\x38\x84\x98\x0e\xff\x00\x8d\xef\xfd\xd2", api.OK},
		{[]api.Section{{Tag: 0}}, "", api.ErrForm}, {[]api.Section{{Tag: 1}, {Tag: 0}}, "", api.ErrForm},
		{[]api.Section{{Tag: 2}, {Tag: 2}}, "", api.ErrForm}, {[]api.Section{{Tag: 2}, {Tag: 1}}, "", api.ErrForm}, {[]api.Section{{Tag: 255}, {Tag: 1}}, "", api.ErrForm},
		{[]api.Section{{Tag: 2, Body: mixed(65536)}}, "", api.ErrLong}, {[]api.Section{{Tag: 1}, {Tag: 2, Body: mixed(65536)}}, "", api.ErrLong},
		{[]api.Section{{Tag: 2}, {Tag: 2, Body: mixed(65536)}}, "", api.ErrForm}, {[]api.Section{{Tag: 0, Body: mixed(65536)}}, "", api.ErrForm},
		{[]api.Section{{Tag: 1, Body: mixed(65536)}, {Tag: 1}}, "", api.ErrLong}, {[]api.Section{{Tag: 2}, {Tag: 1}, {Tag: 3, Body: mixed(65536)}}, "", api.ErrForm},
	} {
		if got, e := section.All(c.l); string(got) != c.want || e != c.e || e != api.OK && got != nil {
			t.Errorf("All of %d: %x, %d, not %x, %d", len(c.l), short(got), int(e), c.want, int(c.e))
		}
	}
}

// P4.1: All, of many lists.
func TestAll(t *testing.T) {
	for i, l := range lists() {
		want, wantE := wantAll(l)
		if got, e := section.All(l); !bytes.Equal(got, want) || e != wantE {
			t.Errorf("list %d: %x.. %d, %d, not %x.. %d, %d", i, short(got), len(got), int(e), short(want), len(want), int(wantE))
		}
	}
}

// behind is the sections' bytes one behind the other, whatever their tags are.
func behind(l []api.Section) []byte {
	var b []byte
	for _, s := range l {
		b = append(b, wantBytes(s)...)
	}
	return b
}

// P4.1: List, by answers written out.
func TestListWrittenOut(t *testing.T) {
	seven, one := "\x07\x00\x38\x84\x98\x0e", "\x01\x03one\xa0\x2e\xda\x6c"
	for _, c := range []struct {
		b    string
		want []api.Section
		e    api.Errno
	}{
		{"", nil, api.OK}, {seven, []api.Section{{Tag: 7}}, api.OK}, {one + seven, []api.Section{{Tag: 1, Body: []byte("one")}, {Tag: 7}}, api.OK},
		{seven + one, nil, api.ErrForm}, {seven + seven, nil, api.ErrForm}, {one + seven + seven, nil, api.ErrForm}, {one + seven + one, nil, api.ErrForm},
		{seven + "\x00", nil, api.ErrForm}, {seven + "\x08", nil, api.ErrShort}, {one + seven[:5], nil, api.ErrShort}, {seven + one[:8], nil, api.ErrShort}, {"\x00", nil, api.ErrForm},
		// Of each section Read's errors come ahead of what its tag is.
		{seven + "\x01\x00\xbe\x23\xc2\x59", nil, api.ErrSum}, {seven + "\x07\x00\x38\x84\x98\x0f", nil, api.ErrSum}, {seven + "\x01\x80\x80\x04", nil, api.ErrLong}, {seven + "\x07\x80", nil, api.ErrShort},
		{one[:8] + "\x6d" + seven, nil, api.ErrSum}, {seven + one + "\x00", nil, api.ErrForm}, {seven + one + "\x08", nil, api.ErrForm},
	} {
		if got, e := section.List([]byte(c.b)); !slices.EqualFunc(got, c.want, same) || e != c.e {
			t.Errorf("List(%x) = %v, %d, not %v, %d", c.b, got, int(e), c.want, int(c.e))
		}
	}
	if got, e := section.List(nil); len(got) != 0 || e != api.OK {
		t.Errorf("List(nil) = %v, %d", got, int(e))
	}
}

// P4.1: List, of many sections' bytes, also cut and with more behind.
func TestList(t *testing.T) {
	for _, l := range lists() {
		b := behind(l)
		checkList(t, b)
		checkList(t, append(bytes.Clone(b), 0))
		checkList(t, append(bytes.Clone(b), 255, 0))
		checkList(t, append(bytes.Clone(b), wantBytes(api.Section{Tag: 255, Body: []byte("last")})...))
		for n := 0; n < len(b); n += 1 + len(b)/200 {
			checkList(t, b[:n])
			checkList(t, b[n:])
		}
	}
}

// P4.1: Find, the first one of a tag, in lists of any kind.
func TestFind(t *testing.T) {
	l := []api.Section{{Tag: 9, Body: []byte("nine")}, {Tag: 1, Body: []byte("one")}, {Tag: 9, Body: []byte("other")}, {Tag: 0, Body: []byte("zero")}, {Tag: 255}, {Tag: 1}, {Tag: 8, Body: mixed(65536)}, {Tag: 4, Body: []byte{}}, {Tag: 4, Body: []byte("no")}}
	bodies := map[int]string{9: "nine", 1: "one", 0: "zero", 255: "", 8: string(mixed(65536)), 4: ""}
	for tag := range 256 {
		want, wantOK := bodies[tag]
		if got, ok := section.Find(l, byte(tag)); string(got) != want || ok != wantOK || !ok && got != nil {
			t.Errorf("tag %d: %x.., %t, not %x.., %t", tag, short(got), ok, want[:min(len(want), 9)], wantOK)
		}
		for _, none := range [][]api.Section{nil, {}, {{Tag: byte(tag + 1), Body: []byte("a")}}} {
			if got, ok := section.Find(none, byte(tag)); got != nil || ok {
				t.Errorf("tag %d in %v: %x, %t", tag, none, got, ok)
			}
		}
	}
}

// P4.1, with the rule that what is handed in is not changed: spare room neither.
func TestHandedInStays(t *testing.T) {
	body := bytes.Repeat([]byte{0xaa}, 40)
	room := append(behind([]api.Section{{Tag: 3, Body: body}, {Tag: 5}}), bytes.Repeat([]byte{0xbb}, 60)...)
	wasRoom, wasBody := bytes.Clone(room), bytes.Clone(body)
	b := room[:len(room)-60]
	l := []api.Section{{Tag: 3, Body: body[:10]}, {Tag: 5, Body: body[5:20]}, {Tag: 6}}
	spoil := func(got []byte) {
		for i := range got {
			got[i]++
		}
	}
	appended, _ := section.Append(b, l[0])
	spoil(appended)
	all, _ := section.All(l[:2])
	spoil(all)
	found, _ := section.Find(l, 5)
	spoil(found)
	s, _, _ := section.Read(b, 0)
	spoil(s.Body)
	list, _ := section.List(b)
	for i := range list {
		spoil(list[i].Body)
		list[i].Tag++
	}
	section.Append(b, api.Section{})
	section.Read(b, 1)
	section.List(b[1:])
	if !bytes.Equal(room, wasRoom) || !bytes.Equal(body, wasBody) || l[0].Tag != 3 || l[1].Tag != 5 || l[2].Tag != 6 || len(l[0].Body) != 10 {
		t.Errorf("%x, %x, %v", room, body, l)
	}
}

// P4.1, with the rule that what is answered is never changed later.
func TestAnsweredStays(t *testing.T) {
	b := make([]byte, 2, 64)
	first, _ := section.Append(b, api.Section{Tag: 7})
	second, _ := section.Append(b, api.Section{Tag: 1, Body: []byte("one")})
	third, _ := section.Append(first, api.Section{Tag: 9})
	fourth, _ := section.Append(first, api.Section{Tag: 8})
	b[0] = 9
	for i, c := range []struct {
		got  []byte
		want []api.Section
	}{{first, []api.Section{{Tag: 7}}}, {second, []api.Section{{Tag: 1, Body: []byte("one")}}}, {third, []api.Section{{Tag: 7}, {Tag: 9}}}, {fourth, []api.Section{{Tag: 7}, {Tag: 8}}}} {
		if want := append([]byte{0, 0}, behind(c.want)...); !bytes.Equal(c.got, want) {
			t.Errorf("%d: %x, not %x", i, c.got, want)
		}
	}
	l := []api.Section{{Tag: 1, Body: []byte("one")}, {Tag: 2, Body: []byte("two")}}
	text := behind(l)
	s, _, _ := section.Read(text, 0)
	list, _ := section.List(text)
	found, _ := section.Find(l, 2)
	clear(text)
	clear(l[1].Body)
	// What is put behind one body may not stand in another one.
	_ = append(list[0].Body, 0xff, 0xff)
	if string(s.Body) != "one" || string(found) != "two" || string(list[0].Body) != "one" || string(list[1].Body) != "two" {
		t.Errorf("%s, %s, %v", s.Body, found, list)
	}
}

// P4.2: what is listed has just the bytes that All writes of it, and what All writes is listed as it was.
func TestThereAndBack(t *testing.T) {
	listed := 0
	for i, l := range lists() {
		b, e := section.All(l)
		if e != api.OK {
			continue
		}
		listed++
		back, e := section.List(b)
		if e != api.OK || !slices.EqualFunc(back, l, same) {
			t.Errorf("list %d comes back as %d sections, %d", i, len(back), int(e))
		}
		if again, e := section.All(back); e != api.OK || !bytes.Equal(again, b) {
			t.Errorf("list %d, written again: %x.. %d, %d", i, short(again), len(again), int(e))
		}
		at := 0
		for j, s := range l {
			x, next, e := section.Read(b, at)
			if e != api.OK || !same(x, s) {
				t.Fatalf("list %d, section %d: %d, %d", i, j, x.Tag, int(e))
			}
			if got, e := section.Append(b[:at], x); e != api.OK || !bytes.Equal(got, b[:next]) {
				t.Errorf("list %d, section %d: written again otherwise, %d", i, j, int(e))
			}
			at = next
		}
		if at != len(b) {
			t.Errorf("list %d: %d bytes are left", i, len(b)-at)
		}
	}
	if listed == 0 {
		t.Error("nothing was listed")
	}
}

// P4.2: a byte of a tag, a body or a sum that is another one is told: every byte put for every other one.
func TestOtherByteIsTold(t *testing.T) {
	l := []api.Section{{Tag: 7, Body: []byte("one")}, {Tag: 9}, {Tag: 200, Body: mixed(20)}}
	b := behind(l)
	at := 0
	for _, s := range l {
		next := at + len(wantBytes(s))
		for i := at; i < next; i++ {
			checkOtherBytes(t, b, at, i, i == at+1)
		}
		at = next
	}
}

// checkOtherBytes puts every other byte at the place i of b, which is in the section at at: a length may be told in any way.
func checkOtherBytes(t *testing.T, b []byte, at, i int, length bool) {
	t.Helper()
	for x := range 256 {
		other := bytes.Clone(b)
		other[i] = byte(x)
		if other[i] == b[i] {
			continue
		}
		want := api.ErrSum
		if i == at && x == 0 {
			want = api.ErrForm
		}
		s, _, e := section.Read(other, at)
		l, listE := section.List(other)
		if e == api.OK || listE == api.OK || s.Tag != 0 || s.Body != nil || len(l) != 0 {
			t.Errorf("%d at %d isn't told: %d, %d", x, i, int(e), int(listE))
		}
		if !length && (e != want || listE != want) {
			t.Errorf("%d at %d: %d, %d, not %d", x, i, int(e), int(listE), int(want))
		}
		checkRead(t, other, at)
		checkList(t, other)
	}
}

// P4.2: the same in a longest body, at its ends and between.
func TestOtherByteIsToldLong(t *testing.T) {
	b := wantBytes(api.Section{Tag: 77, Body: mixed(65535)})
	for _, i := range []int{0, 4, 5, len(b) / 2, len(b) - 5, len(b) - 4, len(b) - 1} {
		for _, by := range []byte{1, 0x80, 0xff} {
			other := bytes.Clone(b)
			other[i] ^= by
			if _, _, e := section.Read(other, 0); e != api.ErrSum {
				t.Errorf("at %d: %d", i, int(e))
			}
			if _, e := section.List(other); e != api.ErrSum {
				t.Errorf("at %d: %d", i, int(e))
			}
		}
	}
}
