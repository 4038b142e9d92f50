package code_test

import (
	"bytes"
	"fmt"
	"math"
	"slices"
	"testing"

	"torpor/api"
	"torpor/code"
)

// end is an instruction of the op OpEnd, the zero value.
var end = api.Ins{}

// ends are so many of them.
func ends(n int) []api.Ins {
	return slices.Repeat([]api.Ins{end}, n)
}

// programOf is a program that may be, with an object of each kind, 2 cells, and what is put before its end.
func programOf(l ...api.Ins) api.Program {
	return api.Program{
		Code: append(slices.Clone(l), end), Kinds: []int{1, 2, 3, 4, 5, 6}, Sizes: []int{0, 0, 0, 0, 0, 9},
		Cells: 2, Recs: 12, Patience: 20,
	}
}

// bare is a program without objects.
func bare(l []api.Ins) api.Program {
	return api.Program{Code: l, Patience: 1}
}

// rightAt is what may stand where the table says what, of what programOf has.
func rightAt(what byte) int {
	switch what {
	case '.':
		return 0
	case 'r', 'n', 'p', 'c':
		return 1
	}
	return int(what - '1')
}

// rightIns is an instruction of an op that is right in programOf.
func rightIns(op int) api.Ins {
	row := table[op]
	return api.Ins{Op: op, A: rightAt(row[0]), B: rightAt(row[1]), C: rightAt(row[2])}
}

// parts are an instruction's A, B and C.
func parts(x *api.Ins) []*int {
	return []*int{&x.A, &x.B, &x.C}
}

// anyProgram is one of programs that may be, without much order.
func anyProgram(x *uint32) api.Program {
	p := api.Program{Cells: step(x, 33), Recs: step(x, 65), Patience: 1 + step(x, 1000)}
	for range step(x, 9) {
		kind, size := 1+step(x, 6), 0
		if kind == 6 {
			size = 1 + step(x, 1<<(1+step(x, 20)))
		}
		p.Kinds, p.Sizes = append(p.Kinds, kind), append(p.Sizes, size)
	}
	p.Code = ends(1 + step(x, 60))
	for i := range p.Code {
		p.Code[i] = anyIns(x, p, i == len(p.Code)-1)
	}
	return p
}

// anyIns is one of a program's instructions that may be, also as the last one.
func anyIns(x *uint32, p api.Program, last bool) api.Ins {
	for {
		in := api.Ins{Op: step(x, 42)}
		if last {
			in.Op = []int{api.OpEnd, api.OpJump, api.OpPanic}[step(x, 3)]
		}
		fits := true
		for k, f := range parts(&in) {
			*f = anyAt(x, p, table[in.Op][k])
			fits = fits && mayStand(p, table[in.Op][k], *f)
		}
		if fits {
			return in
		}
	}
}

// anyAt is one of what may stand there; another number, if there is none, or by chance.
func anyAt(x *uint32, p api.Program, what byte) int {
	switch what {
	case '.':
		return 0
	case 'r':
		return step(x, 4)
	case 'n':
		return []int{math.MinInt32, -1, 0, 1, math.MaxInt32, step(x, 1<<20)}[step(x, 6)]
	case 'p':
		return step(x, len(p.Code))
	case 'c':
		return step(x, p.Cells+1)
	}
	return step(x, len(p.Kinds)+1)
}

// P13.1: the chapter's example, there and back.
func TestExample(t *testing.T) {
	p := api.Program{Code: []api.Ins{{Op: api.OpEnd}}, Patience: 1}
	want := []byte{2, 0, 0, 0, 0, 0, 0, 0, 2}
	if !code.Right(p) || !code.Ins(p, 0) {
		t.Error("it may be")
	}
	if b, e := code.Append(nil, p); e != api.OK || !bytes.Equal(b, want) {
		t.Errorf("written: %x, %d", b, int(e))
	}
	if q, next, e := code.Read(want, 0); e != api.OK || next != 9 || !code.Same(p, q) {
		t.Error("read:", q, next, int(e))
	}
}

// P13.1: a program with an object and each kind of number, its bytes written out.
func TestBytesWrittenOut(t *testing.T) {
	p := api.Program{
		Code:  []api.Ins{{Op: api.OpSet, A: 3, B: -1 << 31}, {Op: api.OpTake, A: 1, B: 2}, {Op: api.OpJump, A: 1}},
		Kinds: []int{api.KindMutex, api.KindWeight}, Sizes: []int{0, 1 << 30}, Cells: 32, Recs: 64, Patience: 1000,
	}
	want := []byte("\x06" +
		"\x02\x06\xff\xff\xff\xff\x0f\x00" + "\x4e\x02\x04\x00" + "\x0c\x02\x00\x00" +
		"\x04" + "\x02\x00" + "\x0c\x80\x80\x80\x80\x08" +
		"\x40" + "\x80\x01" + "\xd0\x0f")
	if b, e := code.Append([]byte("ahead"), p); e != api.OK || string(b) != "ahead"+string(want) {
		t.Errorf("written: %x, %d", b, int(e))
	}
	if q, next, e := code.Read(append(want, 7, 7), 0); e != api.OK || next != len(want) || !code.Same(p, q) {
		t.Error("read:", q, next, int(e))
	}
}

// P13.1: each op, one below and one above, with whatever at A, B and C, in programs that have much, little, and what none may have.
func TestInsByTheTable(t *testing.T) {
	long := api.Program{Code: ends(70), Kinds: []int{7, 6, 5, 4, 3, 2, 1, 0, -1, 1, 2, 3, 4, 5, 6}, Cells: 1 << 40, Recs: -5}
	turned := programOf(ends(59)...)
	turned.Kinds, turned.Sizes, turned.Cells = []int{6, 5, 4, 3, 2, 1, 5, 1}, []int{1, 0, 0, 0, 0, 0, 0, 0}, 32
	below := programOf()
	below.Cells, below.Kinds = -1, []int{0, 7}
	one := programOf(ends(3)...)
	one.Cells = 1
	for _, c := range []struct {
		p api.Program
		i int
	}{{bare(ends(1)), 0}, {programOf(ends(2)...), 1}, {turned, 59}, {one, 0}, {below, 0}, {long, 65}} {
		for op := -2; op <= 44; op++ {
			checkOp(t, c.p, c.i, op)
		}
		for _, op := range edges() {
			checkOp(t, c.p, c.i, op)
		}
	}
}

// checkOp holds Ins against the chapter's words for an op at a place of a program, with whatever at A, B and C.
func checkOp(t *testing.T, p api.Program, i, op int) {
	t.Helper()
	for _, a := range edges() {
		for _, b := range edges() {
			for _, c := range edges() {
				p.Code[i] = api.Ins{Op: op, A: a, B: b, C: c}
				if got := code.Ins(p, i); got != wantIns(p, i) {
					t.Fatalf("Ins(%v, %d) = %v", p, i, got)
				}
			}
		}
	}
}

// P13.1: of each op what is right, and each of A, B and C just too small, too great, and not 0 where nothing stands, written out.
func TestInsWrittenOut(t *testing.T) {
	least := map[byte]int{'n': math.MinInt32, '.': 0, 'r': 0, 'p': 0, 'c': 0}
	most := map[byte]int{'n': math.MaxInt32, '.': 0, 'r': 3, 'p': 9, 'c': 1}
	for op := range 42 {
		p := programOf(ends(9)...)
		p.Code[4] = rightIns(op)
		if !code.Ins(p, 4) || !code.Right(p) {
			t.Errorf("%v is right", p.Code[4])
		}
		for k, f := range parts(&p.Code[4]) {
			what, was := table[op][k], *f
			low, ok := least[what]
			high := most[what]
			if !ok {
				// An object is at one place alone: the one ahead of it and the one behind it are of other kinds.
				low, high = was, was
			}
			for _, x := range []int{low, high} {
				*f = x
				if !code.Ins(p, 4) {
					t.Errorf("%v is right", p.Code[4])
				}
			}
			for _, x := range []int{low - 1, high + 1, math.MinInt, math.MaxInt, low - 1<<32, high + 1<<32} {
				*f = x
				if code.Ins(p, 4) || code.Right(p) {
					t.Errorf("%v is not right", p.Code[4])
				}
			}
			*f = was
		}
	}
	for _, op := range []int{math.MinInt, -1 << 32, -1, 42, 1 << 32, math.MaxInt} {
		p := programOf(api.Ins{Op: op})
		if code.Ins(p, 0) || code.Right(p) {
			t.Error("there is no op", op)
		}
	}
}

// P13.1: each kind of what stands in an instruction at its own edges, written out.
func TestOperandsWrittenOut(t *testing.T) {
	two := programOf()
	two.Kinds, two.Sizes = []int{5, 1, 5, 1, 2}, make([]int, 5)
	for _, c := range []struct {
		what  string
		cells int
		in    api.Ins
		want  bool
	}{
		{"register -1", 0, api.Ins{Op: api.OpOut, A: -1}, false},
		{"register 0", 0, api.Ins{Op: api.OpOut, A: 0}, true},
		{"register 3", 0, api.Ins{Op: api.OpOut, A: 3}, true},
		{"register 4", 0, api.Ins{Op: api.OpOut, A: 4}, false},
		{"the least number", 0, api.Ins{Op: api.OpSet, B: -1 << 31}, true},
		{"one below it", 0, api.Ins{Op: api.OpSet, B: -1<<31 - 1}, false},
		{"the greatest number", 0, api.Ins{Op: api.OpSet, B: 1<<31 - 1}, true},
		{"one above it", 0, api.Ins{Op: api.OpSet, B: 1 << 31}, false},
		{"place -1", 0, api.Ins{Op: api.OpJump, A: -1}, false},
		{"place 0", 0, api.Ins{Op: api.OpJump, A: 0}, true},
		{"the last place", 0, api.Ins{Op: api.OpJump, A: 1}, true},
		{"one beyond", 0, api.Ins{Op: api.OpJump, A: 2}, false},
		{"no cells", 0, api.Ins{Op: api.OpLoad, B: 0}, false},
		{"one cell", 1, api.Ins{Op: api.OpLoad, B: 0}, true},
		{"one cell, and the next one", 1, api.Ins{Op: api.OpLoad, B: 1}, false},
		{"32 cells", 32, api.Ins{Op: api.OpLoad, B: 31}, true},
		{"32 cells, and the next one", 32, api.Ins{Op: api.OpLoad, B: 32}, false},
		{"cell -1", 32, api.Ins{Op: api.OpLoad, B: -1}, false},
		{"a mutex", 0, api.Ins{Op: api.OpLock, A: 1}, true},
		{"another mutex", 0, api.Ins{Op: api.OpLock, A: 3}, true},
		{"a condition, no mutex", 0, api.Ins{Op: api.OpLock, A: 2}, false},
		{"a lock of readers and writers, no mutex", 0, api.Ins{Op: api.OpLock, A: 4}, false},
		{"no object", 0, api.Ins{Op: api.OpLock, A: 5}, false},
		{"object -1", 0, api.Ins{Op: api.OpLock, A: -1}, false},
		{"a mutex, no lock of readers and writers", 0, api.Ins{Op: api.OpRLock, A: 1}, false},
		{"a condition with a mutex", 0, api.Ins{Op: api.OpAwait, A: 2, B: 1}, true},
		{"another condition with the same mutex", 0, api.Ins{Op: api.OpAwait, A: 0, B: 1}, true},
		{"a condition whose mutex is a condition", 0, api.Ins{Op: api.OpAwait, A: 0, B: 2}, false},
		{"a condition whose mutex is a lock of readers and writers", 0, api.Ins{Op: api.OpAwait, A: 0, B: 4}, false},
		{"a condition whose mutex isn't there", 0, api.Ins{Op: api.OpAwait, A: 0, B: 5}, false},
		{"a mutex as a condition", 0, api.Ins{Op: api.OpAwait, A: 1, B: 1}, false},
		{"an end with an A", 0, api.Ins{Op: api.OpEnd, A: 1}, false},
		{"an end with a B", 0, api.Ins{Op: api.OpEnd, B: 1}, false},
		{"an end with a C", 0, api.Ins{Op: api.OpEnd, C: -1}, false},
	} {
		p := copied(two)
		p.Cells, p.Code = c.cells, []api.Ins{c.in, end}
		if code.Ins(p, 0) != c.want || code.Right(p) != c.want {
			t.Error(c.what)
		}
		checkIns(t, p, 0)
		checkRight(t, p)
	}
}

// P13.1: there are only so many instructions.
func TestInsPlaces(t *testing.T) {
	for _, n := range []int{0, 1, 2, 60, 61, 200} {
		p := bare(ends(n))
		for i := -2; i <= n+2; i++ {
			if got := code.Ins(p, i); got != (i >= 0 && i < n) {
				t.Errorf("Ins of %d instructions, %d: %v", n, i, got)
			}
			checkIns(t, p, i)
		}
		for _, i := range edges() {
			checkIns(t, p, i)
		}
	}
	// Each instruction is asked by itself.
	p := programOf(rightIns(api.OpSwap), api.Ins{Op: api.OpMove, B: 9}, rightIns(api.OpAwait))
	for i, want := range []bool{true, false, true, true} {
		if code.Ins(p, i) != want {
			t.Error(i)
		}
	}
}

// change is what makes a program unlike another one.
type change struct {
	what string
	make func(*api.Program)
}

// changes make a program unlike programOf in one thing each: some of them may be, some may not.
func changes() []change {
	l := []change{
		{"no instruction", func(p *api.Program) { p.Code = nil }},
		{"1 instruction", func(p *api.Program) { p.Code = ends(1) }},
		{"60 instructions", func(p *api.Program) { p.Code = ends(60) }},
		{"61 instructions", func(p *api.Program) { p.Code = ends(61) }},
		{"a wrong one in between", func(p *api.Program) { p.Code = []api.Ins{end, {Op: api.OpOut, A: 4}, end} }},
		{"a wrong one as the last", func(p *api.Program) { p.Code = []api.Ins{end, {Op: api.OpPanic, A: 4}} }},
		{"no objects", func(p *api.Program) { p.Kinds, p.Sizes = nil, nil }},
		{"8 objects", func(p *api.Program) { p.Kinds, p.Sizes = slices.Repeat([]int{6}, 8), slices.Repeat([]int{5}, 8) }},
		{"9 objects", func(p *api.Program) { p.Kinds, p.Sizes = slices.Repeat([]int{1}, 9), make([]int, 9) }},
		{"a size fewer", func(p *api.Program) { p.Sizes = p.Sizes[:5] }},
		{"a size more", func(p *api.Program) { p.Sizes = append(p.Sizes, 0) }},
		{"no sizes", func(p *api.Program) { p.Sizes = nil }},
		{"sizes, and no kinds", func(p *api.Program) { p.Kinds = nil }},
	}
	for _, x := range append(edges(), 63, 64, 65, 999, 1000, 1001, 1<<30, 1<<30+1, -1<<30) {
		l = append(l,
			change{fmt.Sprint("cells ", x), func(p *api.Program) { p.Cells = x }},
			change{fmt.Sprint("records ", x), func(p *api.Program) { p.Recs = x }},
			change{fmt.Sprint("patience ", x), func(p *api.Program) { p.Patience = x }})
		for i := range 6 {
			l = append(l,
				change{fmt.Sprint("kind ", i, " is ", x), func(p *api.Program) { p.Kinds[i] = x }},
				change{fmt.Sprint("size ", i, " is ", x), func(p *api.Program) { p.Sizes[i] = x }})
		}
	}
	return l
}

// P13.1: which programs may be: each thing at its edges, all else being right; what may not be is not written.
func TestRightByTheChapter(t *testing.T) {
	may, mayNot := 0, 0
	for _, c := range changes() {
		p := programOf(rightIns(api.OpSet), rightIns(api.OpOut))
		c.make(&p)
		checkRight(t, p)
		checkAppend(t, nil, p)
		checkAppend(t, []byte(c.what), p)
		if code.Right(p) {
			may++
		} else {
			mayNot++
		}
	}
	if may < 20 || mayNot < 100 {
		t.Error(may, mayNot)
	}
}

// P13.1: which programs may be, written out.
func TestRightWrittenOut(t *testing.T) {
	mutex := func(n int) api.Program {
		return api.Program{Code: ends(1), Kinds: slices.Repeat([]int{1}, n), Sizes: make([]int, n), Patience: 1}
	}
	object := func(kind, size int) api.Program {
		return api.Program{Code: ends(1), Kinds: []int{kind}, Sizes: []int{size}, Patience: 1}
	}
	numbers := func(cells, recs, patience int) api.Program {
		return api.Program{Code: ends(1), Cells: cells, Recs: recs, Patience: patience}
	}
	for _, c := range []struct {
		what string
		p    api.Program
		want bool
	}{
		{"the zero value", api.Program{}, false},
		{"no instruction", bare(nil), false},
		{"an empty list of them", bare([]api.Ins{}), false},
		{"1", bare(ends(1)), true}, {"60", bare(ends(60)), true}, {"61", bare(ends(61)), false},
		{"empty lists", api.Program{Code: ends(1), Kinds: []int{}, Sizes: []int{}, Patience: 1}, true},
		{"one object", mutex(1), true}, {"8 objects", mutex(8), true}, {"9 objects", mutex(9), false},
		{"kind -1", object(-1, 0), false}, {"kind 0", object(0, 0), false}, {"kind 7", object(7, 0), false}, {"kind 7 with a size", object(7, 5), false},
		{"a mutex", object(1, 0), true}, {"a mutex with a size", object(1, 1), false}, {"a mutex with one below 0", object(1, -1), false},
		{"a lock", object(2, 0), true}, {"a lock with a size", object(2, 1), false},
		{"a group", object(3, 0), true}, {"a group with a size", object(3, 1), false},
		{"a once", object(4, 0), true}, {"a once with a size", object(4, 1), false},
		{"a condition", object(5, 0), true}, {"a condition with a size", object(5, 1), false},
		{"a weight of -1", object(6, -1), false}, {"a weight of 0", object(6, 0), false}, {"a weight of 1", object(6, 1), true},
		{"a weight of 2^30", object(6, 1<<30), true}, {"a weight of one more", object(6, 1<<30+1), false},
		{"cells -1", numbers(-1, 0, 1), false}, {"cells 0", numbers(0, 0, 1), true},
		{"cells 32", numbers(32, 0, 1), true}, {"cells 33", numbers(33, 0, 1), false},
		{"records -1", numbers(0, -1, 1), false}, {"records 0", numbers(0, 0, 1), true},
		{"records 64", numbers(0, 64, 1), true}, {"records 65", numbers(0, 65, 1), false},
		{"patience -1", numbers(0, 0, -1), false}, {"patience 0", numbers(0, 0, 0), false}, {"patience 1", numbers(0, 0, 1), true},
		{"patience 1000", numbers(0, 0, 1000), true}, {"patience 1001", numbers(0, 0, 1001), false},
	} {
		if got := code.Right(c.p); got != c.want {
			t.Error(c.what, got)
		}
		if _, e := code.Append(nil, c.p); (e == api.OK) != c.want || e != api.OK && e != api.ErrArg {
			t.Error(c.what, int(e))
		}
	}
}

// P13.1: a last instruction of each op; of all but three ops one would go on behind it.
func TestLast(t *testing.T) {
	for op := range 42 {
		want := op == api.OpEnd || op == api.OpJump || op == api.OpPanic
		for n := range 3 {
			p := programOf()
			p.Code = append(ends(n+1), rightIns(op))
			if !code.Ins(p, n+1) || code.Right(p) != want {
				t.Error(op, n)
			}
			checkRight(t, p)
			checkAppend(t, []byte{1}, p)
			checkRead(t, bytesOf(numbersOf(p)...), 0)
		}
	}
}

// P13.1: behind whatever bytes, a program's own are the same ones.
func TestAppend(t *testing.T) {
	x := uint32(3)
	for round := range 300 {
		p := anyProgram(&x)
		checkAppend(t, nil, p)
		checkAppend(t, []byte{}, p)
		checkAppend(t, bytes.Repeat([]byte{0xff}, round), p)
		p.Patience = 0
		checkAppend(t, bytes.Repeat([]byte{0xff}, round), p)
	}
	if b, e := code.Append([]byte("ahead"), api.Program{}); b != nil || e != api.ErrArg {
		t.Error(b, int(e))
	}
}

// P13.1: two programs that are put behind the same bytes don't share those bytes' spare room.
func TestAnswersStay(t *testing.T) {
	b := append(make([]byte, 0, 100), 9)
	one, _ := code.Append(b, bare(ends(1)))
	two, _ := code.Append(b, bare(ends(2)))
	if !bytes.Equal(one, []byte{9, 2, 0, 0, 0, 0, 0, 0, 0, 2}) || !bytes.Equal(two, []byte{9, 4, 0, 0, 0, 0, 0, 0, 0, 0, 0, 0, 0, 2}) {
		t.Errorf("%x, %x", one, two)
	}
	text := bytesOf(numbersOf(programOf())...)
	p, _, _ := code.Read(text, 0)
	q, _, _ := code.Read(text, 0)
	clear(p.Code)
	clear(p.Kinds)
	clear(p.Sizes)
	_, _ = append(p.Code, api.Ins{Op: 8}), append(p.Kinds, 8)
	clear(text)
	if !code.Same(q, programOf()) {
		t.Error(q)
	}
}

// P13.1: Read at each place of bytes, below them, at their end, and beyond.
func TestReadPlaces(t *testing.T) {
	b := append([]byte{5, 2}, bytesOf(numbersOf(programOf(rightIns(api.OpTake)))...)...)
	b = append(b, 2, 0, 0, 0, 0, 0, 0, 0, 2, 3)
	for at := -2; at <= len(b)+2; at++ {
		checkRead(t, b, at)
	}
	for _, at := range edges() {
		checkRead(t, b, at)
		checkRead(t, nil, at)
	}
	for _, c := range []struct {
		at int
		e  api.Errno
	}{{-1, api.ErrArg}, {len(b), api.ErrShort}, {len(b) + 1, api.ErrArg}, {math.MinInt, api.ErrArg}, {math.MaxInt, api.ErrArg}} {
		if p, next, e := code.Read(b, c.at); e != c.e || next != 0 || p.Code != nil || p.Kinds != nil || p.Sizes != nil || !code.Same(p, api.Program{}) {
			t.Error(c.at, p, next, int(e))
		}
	}
}

// P13.1: the place behind a program is told, whatever stands there, and ahead.
func TestReadNext(t *testing.T) {
	x := uint32(7)
	for round := range 300 {
		p := anyProgram(&x)
		ahead := bytes.Repeat([]byte{0x80}, round%5)
		own := bytesOf(numbersOf(p)...)
		for _, behind := range [][]byte{nil, {0}, {0xff}, own} {
			b := slices.Concat(ahead, own, behind)
			q, next, e := code.Read(b, len(ahead))
			if e != api.OK || next != len(ahead)+len(own) || !wantSame(p, q) {
				t.Fatal(p, q, next, int(e))
			}
			checkRead(t, b, len(ahead))
		}
	}
}

// P13.1: bytes that end too early, at each place; beside the error there is no program.
func TestReadShort(t *testing.T) {
	x := uint32(11)
	for range 60 {
		b := bytesOf(numbersOf(anyProgram(&x))...)
		for n := range b {
			p, next, e := code.Read(b[:n], 0)
			if e != api.ErrShort || next != 0 || p.Code != nil || p.Kinds != nil || p.Sizes != nil || !code.Same(p, api.Program{}) {
				t.Fatalf("%x: %v, %d, %d", b[:n], p, next, int(e))
			}
			checkRead(t, b[:n], 0)
		}
	}
}

// P13.1: of the numbers that count, those below 0 and those too great are refused at once, also where nothing stands behind them.
func TestReadCounts(t *testing.T) {
	for _, n := range edges() {
		checkRead(t, bytesOf(int64(n)), 0)
		checkRead(t, bytesOf(0, int64(n)), 0)
		checkRead(t, append(bytesOf(int64(n)), make([]byte, 400)...), 0)
		checkRead(t, append(bytesOf(1, 0, 0, 0, 0, int64(n)), make([]byte, 400)...), 0)
	}
	zeros := make([]byte, 400)
	for _, c := range []struct {
		what string
		b    []byte
		e    api.Errno
	}{
		{"-1 instructions", bytesOf(-1), api.ErrLong},
		{"61 instructions", bytesOf(61), api.ErrLong},
		{"the least number of instructions", bytesOf(math.MinInt64), api.ErrLong},
		{"the greatest number of instructions", bytesOf(math.MaxInt64), api.ErrLong},
		{"60 instructions, and nothing", bytesOf(60), api.ErrShort},
		{"60 instructions", slices.Concat(bytesOf(60), zeros[:243], bytesOf(1)), api.OK},
		{"61 instructions, all there", slices.Concat(bytesOf(61), zeros[:247], bytesOf(1)), api.ErrLong},
		{"-1 objects", bytesOf(1, 0, 0, 0, 0, -1), api.ErrLong},
		{"9 objects", bytesOf(1, 0, 0, 0, 0, 9), api.ErrLong},
		{"9 objects, and no instructions", bytesOf(0, 9), api.ErrLong},
		{"9 objects behind a wrong op", bytesOf(1, 99, 0, 0, 0, 9), api.ErrLong},
		{"8 objects, and nothing", bytesOf(1, 0, 0, 0, 0, 8), api.ErrShort},
		{"8 objects", bytesOf(1, 0, 0, 0, 0, 8, 1, 0, 2, 0, 3, 0, 4, 0, 5, 0, 6, 1, 1, 0, 1, 0, 0, 0, 1), api.OK},
		{"no instructions", bytesOf(0, 0, 0, 0, 1), api.ErrForm},
	} {
		if _, _, e := code.Read(c.b, 0); e != c.e {
			t.Errorf("%s: %d, not %d", c.what, int(e), int(c.e))
		}
		checkRead(t, c.b, 0)
	}
}

// P13.1: layer 2's errors in each number, the first one ahead of all that stands behind it, and ahead of a program that may not be.
func TestReadNumbers(t *testing.T) {
	wrongs := []struct {
		b string
		e api.Errno
	}{
		{"\x80\x00", api.ErrForm}, {"\x81\x80\x00", api.ErrForm}, {"\xff\xff\xff\xff\xff\xff\xff\xff\xff\x00", api.ErrForm},
		{"\xff\xff\xff\xff\xff\xff\xff\xff\xff\x02", api.ErrLong}, {"\x80\x80\x80\x80\x80\x80\x80\x80\x80\x80", api.ErrLong},
	}
	wrong := programOf(rightIns(api.OpSet))
	wrong.Code[0] = api.Ins{Op: 99, A: -1, B: 1 << 40, C: math.MinInt}
	wrong.Kinds[0], wrong.Sizes[0] = 88, -88
	wrong.Cells, wrong.Recs = -3, math.MaxInt
	for _, p := range []api.Program{programOf(rightIns(api.OpSwap), rightIns(api.OpAwait)), wrong, bare(nil)} {
		l := numbersOf(p)
		for k := range l {
			head, tail := bytesOf(l[:k]...), bytesOf(l[k+1:]...)
			for i, w := range wrongs {
				other := wrongs[(i+2)%len(wrongs)].b
				for _, behind := range [][]byte{nil, tail, []byte(other)} {
					b := slices.Concat(head, []byte(w.b), behind)
					if q, next, e := code.Read(b, 0); e != w.e || next != 0 || q.Code != nil || !code.Same(q, api.Program{}) {
						t.Errorf("number %d, %x: %v, %d, %d", k, w.b, q, next, int(e))
					}
					checkRead(t, b, 0)
				}
			}
			for _, cut := range []string{"", "\x80", "\xff\xff\xff\xff\xff\xff\xff\xff\xff"} {
				b := append(slices.Clone(head), cut...)
				if _, _, e := code.Read(b, 0); e != api.ErrShort {
					t.Errorf("number %d ends: %x: %d", k, b, int(e))
				}
			}
		}
	}
}

// P13.1: what may not be is told when all is read, in whatever thing it is wrong.
func TestReadWrong(t *testing.T) {
	base := programOf(rightIns(api.OpSwap), rightIns(api.OpAwait), rightIns(api.OpGive))
	l := numbersOf(base)
	// Where the numbers stand that count: another one there is another text.
	counts := []int{0, 1 + 4*len(base.Code)}
	for k := range l {
		if slices.Contains(counts, k) {
			continue
		}
		for _, x := range edges() {
			m := slices.Clone(l)
			m[k] = int64(x)
			b := bytesOf(m...)
			checkRead(t, b, 0)
			_, _, e := code.Read(b, 0)
			if e != api.OK && e != api.ErrForm {
				t.Errorf("number %d is %d: %d", k, x, int(e))
			}
			// Ahead of that it is told that bytes are missing.
			if _, _, e := code.Read(b[:len(b)-1], 0); e != api.ErrShort {
				t.Errorf("number %d is %d, and the last byte is missing: %d", k, x, int(e))
			}
		}
	}
	for _, c := range changes() {
		p := copied(base)
		c.make(&p)
		if len(p.Kinds) == len(p.Sizes) {
			checkRead(t, append(bytesOf(numbersOf(p)...), c.what...), 0)
		}
	}
}

// P13.1: programs that are unlike in one thing each are not the same, whether they may be or not; such as are alike in all things are.
func TestSame(t *testing.T) {
	base := programOf(rightIns(api.OpSet), rightIns(api.OpSwap))
	var all []api.Program
	for i := range base.Code {
		for _, f := range []func(*api.Ins){func(x *api.Ins) { x.Op++ }, func(x *api.Ins) { x.A++ }, func(x *api.Ins) { x.B-- }, func(x *api.Ins) { x.C = math.MinInt }} {
			p := copied(base)
			f(&p.Code[i])
			all = append(all, p)
		}
	}
	for i := range base.Kinds {
		p, q := copied(base), copied(base)
		p.Kinds[i]++
		q.Sizes[i]--
		all = append(all, p, q)
	}
	for _, f := range []func(*api.Program){
		func(p *api.Program) { p.Cells++ }, func(p *api.Program) { p.Recs-- }, func(p *api.Program) { p.Patience += 1 << 32 },
		func(p *api.Program) { p.Code = append(p.Code, end) }, func(p *api.Program) { p.Code = p.Code[:2] }, func(p *api.Program) { p.Code = nil },
		func(p *api.Program) { p.Kinds = append(p.Kinds, 0) }, func(p *api.Program) { p.Kinds = p.Kinds[:5] }, func(p *api.Program) { p.Kinds = nil },
		func(p *api.Program) { p.Sizes = append(p.Sizes, 0) }, func(p *api.Program) { p.Sizes = p.Sizes[:5] }, func(p *api.Program) { p.Sizes = nil },
		func(p *api.Program) { slices.Reverse(p.Code) }, func(p *api.Program) { p.Kinds, p.Sizes = p.Sizes, p.Kinds },
		func(p *api.Program) { p.Cells, p.Recs = p.Recs, p.Cells },
	} {
		p := copied(base)
		f(&p)
		all = append(all, p)
	}
	all = append(all, base, api.Program{})
	for i, a := range all {
		for k, b := range all {
			if got := code.Same(a, copied(b)); got != (i == k) {
				t.Errorf("Same(%v, %v) = %v", a, b, got)
			}
			checkSame(t, a, b)
		}
	}
	// A list that holds nothing may be nil or empty.
	if !code.Same(api.Program{}, api.Program{Code: []api.Ins{}, Kinds: []int{}, Sizes: []int{}}) {
		t.Error("empty lists")
	}
}

// P13.2: what is written is read as it was, and of each program that may be each place to which one goes is there.
func TestThereAndBack(t *testing.T) {
	x := uint32(17)
	ops := map[int]int{}
	for range 3000 {
		p := anyProgram(&x)
		checkRight(t, p)
		b, e := code.Append(nil, p)
		if e != api.OK {
			t.Fatal(p, int(e))
		}
		if q, next, e := code.Read(b, 0); e != api.OK || next != len(b) || !wantSame(p, q) {
			t.Fatal(p, q, next, int(e))
		}
		for i, in := range p.Code {
			ops[in.Op]++
			for _, to := range goesTo(in, i) {
				if to < 0 || to >= len(p.Code) {
					t.Fatalf("%v: from %d to %d", p, i, to)
				}
			}
		}
	}
	if len(ops) != 42 {
		t.Error("ops that were met:", len(ops))
	}
}

// goesTo are the places to which one goes from an instruction, or begins a task, or a block.
func goesTo(in api.Ins, i int) []int {
	switch in.Op {
	case api.OpEnd, api.OpPanic:
		return nil
	case api.OpJump:
		return []int{in.A}
	case api.OpDefer:
		return []int{in.A, i + 1}
	case api.OpZero, api.OpSpawn:
		return []int{in.B, i + 1}
	}
	return []int{i + 1}
}

// P13.1, P13.2: programs that are right but for one thing or two: each call as the chapter says, and what Right takes leads nowhere that isn't there.
func TestNearlyRight(t *testing.T) {
	x := uint32(29)
	may := 0
	for range 20000 {
		p := anyProgram(&x)
		for range 1 + step(&x, 2) {
			spoil(&x, &p)
		}
		checkRight(t, p)
		checkIns(t, p, step(&x, len(p.Code)+2)-1)
		if len(p.Kinds) == len(p.Sizes) {
			checkRead(t, bytesOf(numbersOf(p)...), 0)
		}
		if !code.Right(p) {
			continue
		}
		may++
		for i, in := range p.Code {
			for _, to := range goesTo(in, i) {
				if to < 0 || to >= len(p.Code) {
					t.Fatalf("%v: from %d to %d", p, i, to)
				}
			}
		}
	}
	if may < 1000 || may > 19000 {
		t.Error("may be:", may)
	}
}

// spoil makes one thing of a program another one.
func spoil(x *uint32, p *api.Program) {
	i := step(x, len(p.Code))
	edge := edges()[step(x, len(edges()))]
	switch c := step(x, 10); c {
	case 0:
		p.Code[i].Op = edge
	case 1, 2, 3:
		*parts(&p.Code[i])[c-1] = edge
	case 4:
		p.Code = p.Code[:i+1]
	case 5:
		p.Cells = edge
	case 6:
		p.Recs, p.Patience = p.Patience, p.Recs
	case 7:
		p.Kinds = append(p.Kinds, step(x, 8))
		p.Sizes = append(p.Sizes, step(x, 2))
	case 8:
		p.Kinds = p.Kinds[:len(p.Kinds)/2]
	case 9:
		p.Code[i].Op = step(x, 42)
	}
}

// P13.2: whatever bytes there are: what is read of them has just those bytes.
func TestAnyBytes(t *testing.T) {
	p := programOf(api.Ins{Op: api.OpSet, A: 1, B: -70000}, rightIns(api.OpAwait), rightIns(api.OpZero), api.Ins{Op: api.OpJump, A: 2})
	b := bytesOf(numbersOf(p)...)
	read := 0
	for i := range b {
		for c := range 256 {
			m := slices.Clone(b)
			m[i] = byte(c)
			checkRead(t, m, 0)
			if q, next, e := code.Read(m, 0); e == api.OK {
				read++
				if again, e := code.Append(m[:0:0], q); e != api.OK || !bytes.Equal(again, m[:next]) {
					t.Fatalf("%x: %x, %d", m, again, int(e))
				}
			}
		}
	}
	if read < 2*len(b) {
		t.Error("read:", read)
	}
	x := uint32(41)
	for range 20000 {
		m := make([]byte, step(&x, 40))
		for i := range m {
			m[i] = byte(step(&x, 1+step(&x, 256)))
		}
		checkRead(t, m, step(&x, len(m)+1))
	}
}
