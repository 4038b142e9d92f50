package code_test

import (
	"encoding/binary"
	"math"
	"slices"
	"testing"

	"torpor/api"
	"torpor/code"
)

// table is the chapter's: of each op what stands at A, B and C: a register (r), a number (n), a place (p), a cell (c), an object (its kind's number), or nothing (.).
var table = []string{
	api.OpEnd:     "...",
	api.OpSet:     "rn.",
	api.OpMove:    "rr.",
	api.OpAdd:     "rrr",
	api.OpSub:     "rrr",
	api.OpLess:    "rrr",
	api.OpJump:    "p..",
	api.OpZero:    "rp.",
	api.OpLoad:    "rc.",
	api.OpStore:   "rc.",
	api.OpSwap:    "rcr",
	api.OpMore:    "rc.",
	api.OpRAdd:    "rrr",
	api.OpRSub:    "rrr",
	api.OpRMul:    "rrr",
	api.OpRDiv:    "rrr",
	api.OpRLess:   "rrr",
	api.OpToReal:  "rr.",
	api.OpToInt:   "rr.",
	api.OpOut:     "r..",
	api.OpDraw:    "r..",
	api.OpNow:     "r..",
	api.OpSpawn:   "rp.",
	api.OpDefer:   "p..",
	api.OpPanic:   "r..",
	api.OpRecover: "rr.",
	api.OpLock:    "1..",
	api.OpUnlock:  "1..",
	api.OpRLock:   "2..",
	api.OpRUnlock: "2..",
	api.OpWLock:   "2..",
	api.OpWUnlock: "2..",
	api.OpCount:   "3r.",
	api.OpWait:    "3..",
	api.OpOnce:    "4r.",
	api.OpOnceEnd: "4..",
	api.OpAwait:   "51.",
	api.OpSignal:  "5..",
	api.OpAll:     "5..",
	api.OpTake:    "6r.",
	api.OpGive:    "6r.",
	api.OpSleep:   "r..",
}

// mayStand: may x stand where the table says what, by the chapter's words?
func mayStand(p api.Program, what byte, x int) bool {
	switch what {
	case '.':
		return x == 0
	case 'r':
		return slices.Contains([]int{0, 1, 2, 3}, x)
	case 'n':
		return x >= -2147483648 && x <= 2147483647
	case 'p':
		return x >= 0 && x < len(p.Code)
	case 'c':
		return x >= 0 && x < p.Cells
	}
	for place, kind := range p.Kinds {
		if place == x && kind == int(what-'0') {
			return true
		}
	}
	return false
}

// wantIns is what Ins must answer, by the chapter's words.
func wantIns(p api.Program, i int) bool {
	if i < 0 || i >= len(p.Code) {
		return false
	}
	x := p.Code[i]
	if x.Op < 0 || x.Op > 41 {
		return false
	}
	row := table[x.Op]
	return mayStand(p, row[0], x.A) && mayStand(p, row[1], x.B) && mayStand(p, row[2], x.C)
}

// wantRight is what Right must answer, by the chapter's words: each of them asked by itself.
func wantRight(p api.Program) bool {
	if len(p.Code) < 1 || len(p.Code) > 60 || len(p.Kinds) > 8 || len(p.Sizes) != len(p.Kinds) {
		return false
	}
	for i, kind := range p.Kinds {
		least, most := 0, 0
		if kind == 6 {
			least, most = 1, 1073741824
		}
		if kind < 1 || kind > 6 || p.Sizes[i] < least || p.Sizes[i] > most {
			return false
		}
	}
	for i := range p.Code {
		if !wantIns(p, i) {
			return false
		}
	}
	last := p.Code[len(p.Code)-1].Op
	return p.Cells >= 0 && p.Cells <= 32 && p.Recs >= 0 && p.Recs <= 64 && p.Patience >= 1 && p.Patience <= 1000 &&
		(last == 0 || last == 6 || last == 24)
}

// numbersOf are what is written of a program, in turn, whether it may be or not; the lists of kinds and of sizes are of one length.
func numbersOf(p api.Program) []int64 {
	l := []int64{int64(len(p.Code))}
	for _, x := range p.Code {
		l = append(l, int64(x.Op), int64(x.A), int64(x.B), int64(x.C))
	}
	l = append(l, int64(len(p.Kinds)))
	for i := range p.Kinds {
		l = append(l, int64(p.Kinds[i]), int64(p.Sizes[i]))
	}
	return append(l, int64(p.Cells), int64(p.Recs), int64(p.Patience))
}

// bytesOf are numbers with a sign, by the library's words for them.
func bytesOf(l ...int64) []byte {
	var b []byte
	for _, x := range l {
		b = binary.AppendVarint(b, x)
	}
	return b
}

// text is bytes that are read by the words of the chapter and of layer 2's, up to the first error.
type text struct {
	b  []byte
	at int
	e  api.Errno
}

// number is the next one; 0 behind an error.
func (r *text) number() int {
	x := uint64(0)
	for i := 0; r.e == api.OK; i++ {
		if r.at >= len(r.b) {
			r.e = api.ErrShort
			break
		}
		c := r.b[r.at]
		r.at++
		x += uint64(c%128) << (7 * i)
		switch {
		case i == 9 && c > 1:
			r.e = api.ErrLong
		case i > 0 && c == 0:
			r.e = api.ErrForm
		case c < 128 && x%2 == 0:
			return int(x / 2)
		case c < 128:
			return -int(x/2) - 1
		}
	}
	return 0
}

// count is the next one, of which there are at most so many.
func (r *text) count(most int) int {
	n := r.number()
	if r.e == api.OK && (n < 0 || n > most) {
		r.e = api.ErrLong
	}
	if r.e != api.OK {
		return 0
	}
	return n
}

// wantRead is what Read must answer, by the chapter's words.
func wantRead(b []byte, at int) (api.Program, int, api.Errno) {
	if at < 0 || at > len(b) {
		return api.Program{}, 0, api.ErrArg
	}
	r := &text{b: b, at: at}
	var p api.Program
	for n := r.count(60); n > 0; n-- {
		var x api.Ins
		for _, f := range []*int{&x.Op, &x.A, &x.B, &x.C} {
			*f = r.number()
		}
		p.Code = append(p.Code, x)
	}
	for n := r.count(8); n > 0; n-- {
		p.Kinds = append(p.Kinds, r.number())
		p.Sizes = append(p.Sizes, r.number())
	}
	for _, f := range []*int{&p.Cells, &p.Recs, &p.Patience} {
		*f = r.number()
	}
	if r.e == api.OK && !wantRight(p) {
		r.e = api.ErrForm
	}
	if r.e != api.OK {
		return api.Program{}, 0, r.e
	}
	return p, r.at, api.OK
}

// wantSame is what Same must answer, by the chapter's words.
func wantSame(a, b api.Program) bool {
	if len(a.Code) != len(b.Code) || len(a.Kinds) != len(b.Kinds) || len(a.Sizes) != len(b.Sizes) {
		return false
	}
	for i := range a.Code {
		if a.Code[i] != b.Code[i] {
			return false
		}
	}
	for i := range a.Kinds {
		if a.Kinds[i] != b.Kinds[i] {
			return false
		}
	}
	for i := range a.Sizes {
		if a.Sizes[i] != b.Sizes[i] {
			return false
		}
	}
	return a.Cells == b.Cells && a.Recs == b.Recs && a.Patience == b.Patience
}

// copied is a program of its own.
func copied(p api.Program) api.Program {
	p.Code, p.Kinds, p.Sizes = slices.Clone(p.Code), slices.Clone(p.Kinds), slices.Clone(p.Sizes)
	return p
}

// given is a program with spare room behind its lists, and all of that as it was when it was made.
type given struct {
	p, all, was api.Program
}

func give(p api.Program) given {
	all := copied(p)
	all.Code = append(all.Code, api.Ins{Op: 90, A: 91, B: 92, C: 93}, api.Ins{})
	all.Kinds = append(all.Kinds, 94, 1)
	all.Sizes = append(all.Sizes, 95, 0)
	lent := all
	lent.Code, lent.Kinds, lent.Sizes = all.Code[:len(p.Code)], all.Kinds[:len(p.Kinds)], all.Sizes[:len(p.Sizes)]
	return given{lent, all, copied(all)}
}

// unchanged looks whether what was handed in is as it was.
func (g given) unchanged(t *testing.T, call string) {
	t.Helper()
	if !wantSame(g.all, g.was) {
		t.Errorf("%s changes what was handed in: %v", call, g.all)
	}
}

// spare is bytes with spare room behind them, and how all of it is.
func spare(b []byte) (lent, all, was []byte) {
	all = append(slices.Clone(b), 201, 202, 203)
	return all[:len(b)], all, slices.Clone(all)
}

func checkIns(t *testing.T, p api.Program, i int) {
	t.Helper()
	g := give(p)
	if got := code.Ins(g.p, i); got != wantIns(p, i) {
		t.Errorf("Ins(%v, %d) = %v", p, i, got)
	}
	g.unchanged(t, "Ins")
}

func checkRight(t *testing.T, p api.Program) {
	t.Helper()
	g := give(p)
	if got := code.Right(g.p); got != wantRight(p) {
		t.Errorf("Right(%v) = %v", p, got)
	}
	g.unchanged(t, "Right")
}

func checkSame(t *testing.T, a, b api.Program) {
	t.Helper()
	g, h := give(a), give(b)
	if got := code.Same(g.p, h.p); got != wantSame(a, b) {
		t.Errorf("Same(%v, %v) = %v", a, b, got)
	}
	g.unchanged(t, "Same")
	h.unchanged(t, "Same")
}

// checkAppend holds Append against the chapter's words; what it answers is its own.
func checkAppend(t *testing.T, b []byte, p api.Program) {
	t.Helper()
	var want []byte
	wantE := api.ErrArg
	if wantRight(p) {
		want, wantE = append(slices.Clone(b), bytesOf(numbersOf(p)...)...), api.OK
	}
	g := give(p)
	lent, all, was := spare(b)
	got, e := code.Append(lent, g.p)
	if !slices.Equal(got, want) || e != wantE {
		t.Errorf("Append(%x, %v) = %x, %d, not %x, %d", b, p, got, int(e), want, int(wantE))
	}
	clear(all)
	if !slices.Equal(got, want) {
		t.Errorf("Append(%x, %v): the answer is changed with what was handed in", b, p)
	}
	copy(all, was)
	clear(got)
	// An answer's spare room is its own, too.
	_ = append(got, 77)
	if !slices.Equal(all, was) {
		t.Errorf("Append(%x, %v) changes what was handed in: %x", b, p, all)
	}
	g.unchanged(t, "Append")
}

// checkRead holds Read against the chapter's words, and what is read against what is written of it.
func checkRead(t *testing.T, b []byte, at int) {
	t.Helper()
	want, wantNext, wantE := wantRead(b, at)
	lent, all, was := spare(b)
	p, next, e := code.Read(lent, at)
	if !slices.Equal(all, was) {
		t.Errorf("Read(%x, %d) changes what was handed in: %x", b, at, all)
	}
	clear(all)
	if !wantSame(p, want) || next != wantNext || e != wantE {
		t.Errorf("Read(%x, %d) = %v, %d, %d, not %v, %d, %d", b, at, p, next, int(e), want, wantNext, int(wantE))
	}
	if e != api.OK {
		return
	}
	if again, e := code.Append(nil, p); e != api.OK || !slices.Equal(again, b[at:next]) {
		t.Errorf("Read(%x, %d), and Append of it: %x, %d", b, at, again, int(e))
	}
}

// step is the next one of numbers without much order, the same ones each time.
func step(x *uint32, n int) int {
	*x = *x*1664525 + 1013904223
	return int(*x>>8) % n
}

// edges are numbers at which what stands in an instruction may begin to be wrong, or right, and others far off.
func edges() []int {
	return []int{
		math.MinInt, math.MinInt + 1, -1 << 32, -1<<31 - 1, -1 << 31, -2, -1, 0, 1, 2, 3, 4, 5, 6, 7, 8, 9, 12, 31, 32, 33,
		58, 59, 60, 61, 1<<31 - 1, 1 << 31, 1 << 32, 1<<32 + 1, math.MaxInt,
	}
}
