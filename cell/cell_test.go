package cell_test

import (
	"math"
	"math/big"
	"slices"
	"testing"

	"torpor/cell"
)

const (
	most = uint64(math.MaxUint64)
	high = uint64(1) << 63
	junk = uint64(0x7777) // what stands in spare room
)

// edges are words of which each call must know each.
func edges() []uint64 {
	return []uint64{0, 1, high, most}
}

// manyWords are the edges, their neighbours, those that are the same but for the bits above 32, and some between.
func manyWords() []uint64 {
	return append(edges(), 2, 3, high-1, high+1, most-1, 1<<32, 1<<32-1, 1<<32+1, math.MaxInt32, 0x123456789abcdef0)
}

// outside are places at which cells of that length have none.
func outside(n int) []int {
	return []int{-1, -2, -n, -n - 1, n, n + 1, 2*n + 1, math.MinInt, math.MinInt + 1, math.MaxInt, math.MaxInt - 1, math.MinInt32, math.MaxInt32, -1 << 32, 1 << 32, 1<<32 + n}
}

// step is the next one of numbers without much order, the same ones each time.
func step(x *uint64) uint64 {
	*x = *x*6364136223846793005 + 1442695040888963407
	return *x ^ *x>>29
}

// below is a step's number below n.
func below(x *uint64, n int) int {
	return int(step(x) >> 33 % uint64(n))
}

// cellsOf are so many cells, whose words are without much order.
func cellsOf(n int) []uint64 {
	c, x := make([]uint64, n), uint64(n)
	for k := range c {
		c[k] = step(&x)
	}
	return c
}

// sum is two words' sum by numbers of any length, cut to 64 bits.
func sum(a, b uint64) uint64 {
	x := new(big.Int).Add(new(big.Int).SetUint64(a), new(big.Int).SetUint64(b))
	return x.And(x, new(big.Int).SetUint64(most)).Uint64()
}

// answer is all that a call may answer; calls with fewer results leave the others 0.
type answer struct {
	cells   []uint64
	word    uint64
	was, ok bool
}

func (a answer) same(b answer) bool {
	return slices.Equal(a.cells, b.cells) && a.word == b.word && a.was == b.was && a.ok == b.ok
}

// wantLoad is what Load must answer, by the chapter's words: the cells are gone through, so that no place is asked whether it may be.
func wantLoad(c []uint64, i int) answer {
	for k, word := range c {
		if k == i {
			return answer{word: word, ok: true}
		}
	}
	return answer{}
}

// wantStore is what Store must answer, by the chapter's words.
func wantStore(c []uint64, i int, x uint64) answer {
	var a answer
	for k, word := range c {
		if k == i {
			word, a.ok = x, true
		}
		a.cells = append(a.cells, word)
	}
	if !a.ok {
		return answer{}
	}
	return a
}

// wantSwap is what Swap must answer, by the chapter's words.
func wantSwap(c []uint64, i int, old, x uint64) answer {
	l := wantLoad(c, i)
	switch {
	case !l.ok:
		return answer{}
	case l.word != old:
		return answer{cells: c, ok: true}
	}
	return answer{cells: wantStore(c, i, x).cells, was: true, ok: true}
}

// wantMore is what More must answer, by the chapter's words.
func wantMore(c []uint64, i int, by uint64) answer {
	l := wantLoad(c, i)
	if !l.ok {
		return answer{}
	}
	now := sum(l.word, by)
	return answer{cells: wantStore(c, i, now).cells, word: now, ok: true}
}

// given is cells with spare room behind them, and how both were when they were made.
type given struct {
	c, was []uint64
}

func give(c []uint64) given {
	l := append(slices.Clone(c), junk, 0, most)
	return given{l[:len(c)], slices.Clone(l)}
}

// unchanged looks whether what was handed in is as it was.
func (g given) unchanged(t *testing.T, call string) {
	t.Helper()
	if !slices.Equal(g.c[:len(g.was)], g.was) {
		t.Errorf("%s changes what was handed in: %#x, not %#x", call, g.c[:len(g.was)], g.was)
	}
}

// apart looks whether what was handed in, and the cells of an answer, are each changed with the other ones.
func (g given) apart(t *testing.T, call string, got []uint64) {
	t.Helper()
	was := slices.Clone(got)
	for k := range g.was {
		g.c[:len(g.was)][k] = ^g.was[k]
	}
	if !slices.Equal(got, was) {
		t.Errorf("%s: the answer is changed with what was handed in", call)
	}
	copy(g.c[:len(g.was)], g.was)
	for k := range got {
		got[k] = ^got[k]
	}
	// An answer's spare room is its own, too.
	_ = append(got, ^junk)
	g.unchanged(t, call+"'s answer, when it is written to,")
}

// check holds an answer against the one that must be, and looks at what was handed in.
func (g given) check(t *testing.T, call string, i int, got, want answer) {
	t.Helper()
	if !got.same(want) {
		t.Errorf("%s of %d at %d: %v, not %v", call, g.c, i, got, want)
	}
	g.unchanged(t, call)
	g.apart(t, call, got.cells)
}

func checkLoad(t *testing.T, c []uint64, i int) {
	t.Helper()
	g := give(c)
	word, ok := cell.Load(g.c, i)
	g.check(t, "Load", i, answer{word: word, ok: ok}, wantLoad(c, i))
}

func checkStore(t *testing.T, c []uint64, i int, x uint64) {
	t.Helper()
	g := give(c)
	after, ok := cell.Store(g.c, i, x)
	g.check(t, "Store", i, answer{cells: after, ok: ok}, wantStore(c, i, x))
}

func checkSwap(t *testing.T, c []uint64, i int, old, x uint64) {
	t.Helper()
	g := give(c)
	after, was, ok := cell.Swap(g.c, i, old, x)
	g.check(t, "Swap", i, answer{cells: after, was: was, ok: ok}, wantSwap(c, i, old, x))
}

func checkMore(t *testing.T, c []uint64, i int, by uint64) {
	t.Helper()
	g := give(c)
	after, now, ok := cell.More(g.c, i, by)
	g.check(t, "More", i, answer{cells: after, word: now, ok: ok}, wantMore(c, i, by))
}

// checkCalls holds each call at a place against the chapter's words, for all pairs of these words, and of the word that is there.
func checkCalls(t *testing.T, c []uint64, i int, words ...uint64) {
	t.Helper()
	checkLoad(t, c, i)
	words = append(words, wantLoad(c, i).word)
	for _, x := range words {
		checkStore(t, c, i, x)
		checkMore(t, c, i, x)
		for _, old := range words {
			checkSwap(t, c, i, old, x)
		}
	}
}

// checkSame holds Same of two lists, either way, against what must be.
func checkSame(t *testing.T, a, b []uint64, want bool) {
	t.Helper()
	g, h := give(a), give(b)
	if got := cell.Same(g.c, h.c); got != want {
		t.Errorf("Same(%#x, %#x) = %v", a, b, got)
	}
	if got := cell.Same(h.c, g.c); got != want {
		t.Errorf("Same(%#x, %#x) = %v", b, a, got)
	}
	g.unchanged(t, "Same")
	h.unchanged(t, "Same")
}

// P14.1: Load, by answers written out: of one cell, and of many; and of each word that stands at an edge.
func TestLoad(t *testing.T) {
	c := []uint64{7, 0, 1, high, most, 5}
	for _, k := range []struct {
		c    []uint64
		i    int
		word uint64
		ok   bool
	}{
		{c, 0, 7, true}, {c, 1, 0, true}, {c, 2, 1, true}, {c, 3, high, true}, {c, 4, most, true}, {c, 5, 5, true},
		{c, -1, 0, false}, {c, 6, 0, false}, {c, math.MinInt, 0, false}, {c, math.MaxInt, 0, false},
		{c[:1], 0, 7, true}, {c[:1], 1, 0, false}, {c[:1], -1, 0, false},
		{c[3:4], 0, high, true}, {c[3:4], 1, 0, false}, // behind it a word stands in its spare room
		{c[:0], 0, 0, false}, {nil, 0, 0, false},
	} {
		if word, ok := cell.Load(k.c, k.i); word != k.word || ok != k.ok {
			t.Errorf("Load(%#x, %d) = %#x, %v", k.c, k.i, word, ok)
		}
	}
}

// P14.1: Store, by answers written out: another word, and the one that is there already, at the first cell, the last one, and between.
func TestStore(t *testing.T) {
	for _, k := range []struct {
		c    []uint64
		i    int
		x    uint64
		want []uint64
	}{
		{[]uint64{5, 7}, 0, 9, []uint64{9, 7}},
		{[]uint64{5, 7}, 1, 9, []uint64{5, 9}},
		{[]uint64{5, 7}, 1, 7, []uint64{5, 7}},
		{[]uint64{5, 7, 5}, 1, 5, []uint64{5, 5, 5}},
		{[]uint64{5, 5, 5}, 2, 0, []uint64{5, 5, 0}},
		{[]uint64{5}, 0, most, []uint64{most}},
		{[]uint64{most}, 0, 0, []uint64{0}},
		{[]uint64{0}, 0, high, []uint64{high}},
		{[]uint64{0}, 0, 0, []uint64{0}},
	} {
		checkStore(t, k.c, k.i, k.x)
		if after, ok := cell.Store(k.c, k.i, k.x); !ok || !slices.Equal(after, k.want) {
			t.Errorf("Store(%#x, %d, %#x) = %#x, %v", k.c, k.i, k.x, after, ok)
		}
	}
}

// P14.1: Swap, by answers written out: the chapter's example; where the word is old, and where it isn't, each also where old and x are the same, and where the word is x already.
func TestSwap(t *testing.T) {
	for _, k := range []struct {
		c      []uint64
		i      int
		old, x uint64
		want   []uint64
		was    bool
	}{
		{[]uint64{5, 7}, 1, 7, 8, []uint64{5, 8}, true},
		{[]uint64{5, 7}, 1, 5, 8, []uint64{5, 7}, false}, // it is another cell's word
		{[]uint64{5, 7}, 0, 7, 8, []uint64{5, 7}, false},
		{[]uint64{5, 7}, 0, 5, 8, []uint64{8, 7}, true},
		{[]uint64{7, 7}, 0, 7, 8, []uint64{8, 7}, true},
		{[]uint64{7, 7}, 1, 7, 8, []uint64{7, 8}, true},
		{[]uint64{5, 7}, 1, 7, 7, []uint64{5, 7}, true},
		{[]uint64{5, 7}, 1, 8, 8, []uint64{5, 7}, false},
		{[]uint64{5, 7}, 1, 8, 7, []uint64{5, 7}, false},
		{[]uint64{0}, 0, 0, most, []uint64{most}, true},
		{[]uint64{most}, 0, most, 0, []uint64{0}, true},
		{[]uint64{0}, 0, 0, 0, []uint64{0}, true},
		{[]uint64{0}, 0, 1, 1, []uint64{0}, false},
		{[]uint64{high}, 0, 0, 1, []uint64{high}, false}, // unlike in the highest bit alone
		{[]uint64{high}, 0, high, high - 1, []uint64{high - 1}, true},
		{[]uint64{1<<32 + 1}, 0, 1, 2, []uint64{1<<32 + 1}, false},
	} {
		checkSwap(t, k.c, k.i, k.old, k.x)
		if after, was, ok := cell.Swap(k.c, k.i, k.old, k.x); !ok || was != k.was || !slices.Equal(after, k.want) {
			t.Errorf("Swap(%#x, %d, %#x, %#x) = %#x, %v, %v", k.c, k.i, k.old, k.x, after, was, ok)
		}
	}
}

// P14.1: More, by answers written out: by 0, by less than is cut, and cut to 64 bits.
func TestMore(t *testing.T) {
	for _, k := range []struct {
		c    []uint64
		i    int
		by   uint64
		want []uint64
		now  uint64
	}{
		{[]uint64{5, 7}, 0, 3, []uint64{8, 7}, 8},
		{[]uint64{5, 7}, 1, 3, []uint64{5, 10}, 10},
		{[]uint64{5, 7}, 1, 0, []uint64{5, 7}, 7},
		{[]uint64{0, 7}, 0, 0, []uint64{0, 7}, 0},
		{[]uint64{5, 7}, 1, most, []uint64{5, 6}, 6},
		{[]uint64{5, 7}, 1, most - 6, []uint64{5, 0}, 0},
		{[]uint64{5, 7}, 1, most - 7, []uint64{5, most}, most},
		{[]uint64{0}, 0, most, []uint64{most}, most},
		{[]uint64{most}, 0, 1, []uint64{0}, 0},
		{[]uint64{most}, 0, most, []uint64{most - 1}, most - 1},
		{[]uint64{high}, 0, high, []uint64{0}, 0},
		{[]uint64{high - 1}, 0, 1, []uint64{high}, high},
		{[]uint64{high}, 0, high - 1, []uint64{most}, most},
		{[]uint64{math.MaxUint32}, 0, 1, []uint64{1 << 32}, 1 << 32},
	} {
		checkMore(t, k.c, k.i, k.by)
		if after, now, ok := cell.More(k.c, k.i, k.by); !ok || now != k.now || !slices.Equal(after, k.want) {
			t.Errorf("More(%#x, %d, %#x) = %#x, %#x, %v", k.c, k.i, k.by, after, now, ok)
		}
	}
}

// P14.1: Same, by answers written out: unlike in one word, in how many there are, in their order; nil and empty ones.
func TestSame(t *testing.T) {
	for _, k := range []struct {
		a, b []uint64
		want bool
	}{
		{nil, nil, true}, {nil, []uint64{}, true}, {[]uint64{}, []uint64{}, true},
		{nil, []uint64{0}, false}, {[]uint64{}, []uint64{0}, false}, {nil, []uint64{5}, false},
		{[]uint64{0}, []uint64{0}, true}, {[]uint64{0}, []uint64{1}, false},
		{[]uint64{most}, []uint64{most}, true}, {[]uint64{most}, []uint64{high}, false},
		{[]uint64{0}, []uint64{high}, false}, {[]uint64{1}, []uint64{1<<32 + 1}, false},
		{[]uint64{0}, []uint64{0, 0}, false}, {[]uint64{5, 7}, []uint64{5, 7, 0}, false},
		{[]uint64{5, 7}, []uint64{5, 7}, true}, {[]uint64{5, 7}, []uint64{5, 8}, false}, {[]uint64{5, 7}, []uint64{4, 7}, false},
		{[]uint64{5, 7}, []uint64{7, 5}, false}, {[]uint64{5, 7}, []uint64{5}, false}, {[]uint64{5, 7}, []uint64{7}, false},
		{[]uint64{5, 7}, []uint64{6, 6}, false}, // their sums are alike
	} {
		if cell.Same(k.a, k.b) != k.want || cell.Same(k.b, k.a) != k.want {
			t.Errorf("Same(%#x, %#x) isn't %v", k.a, k.b, k.want)
		}
		checkSame(t, k.a, k.b, k.want)
	}
	for _, n := range []int{1, 2, 3, 31, 32, 33, 1000} {
		c := cellsOf(n)
		checkSame(t, c, slices.Clone(c), true)
		checkSame(t, c, c[:n-1], false)
		checkSame(t, c, c[1:], false)
		checkSame(t, c, append(slices.Clone(c), junk), false)
		// A list is the same as itself, and not the same as a piece of itself.
		if !cell.Same(c, c) || cell.Same(c, c[:n-1]) || cell.Same(c[1:], c) {
			t.Errorf("Same of %d cells and a piece of them", n)
		}
		for k := range n {
			for _, x := range []uint64{1, high, most, 1 << 32} {
				other := slices.Clone(c)
				other[k] ^= x
				checkSame(t, c, other, false)
			}
		}
	}
}

// P14.1: each call where there is no i-th cell, of none, one and many: no cells, 0, and false.
func TestNoCell(t *testing.T) {
	lists := [][]uint64{nil, {}, {0}, {5}, {most}, {5, 7}, cellsOf(12), cellsOf(32), cellsOf(33), cellsOf(1000)}
	for _, c := range lists {
		for _, i := range outside(len(c)) {
			if i >= 0 && i < len(c) {
				t.Fatalf("%d is a place of %d", i, len(c))
			}
			checkCalls(t, c, i, 0, 5, most, junk)
			for _, x := range []uint64{0, 5, most} {
				if word, ok := cell.Load(c, i); ok || word != 0 {
					t.Errorf("Load of %d at %d: %#x, %v", len(c), i, word, ok)
				}
				if after, ok := cell.Store(c, i, x); ok || len(after) != 0 {
					t.Errorf("Store of %d at %d: %#x, %v", len(c), i, after, ok)
				}
				if after, was, ok := cell.Swap(c, i, x, 0); ok || was || len(after) != 0 {
					t.Errorf("Swap of %d at %d: %#x, %v, %v", len(c), i, after, was, ok)
				}
				if after, now, ok := cell.More(c, i, x); ok || now != 0 || len(after) != 0 {
					t.Errorf("More of %d at %d: %#x, %#x, %v", len(c), i, after, now, ok)
				}
			}
		}
	}
}

// P14.1: each call, of all lists of up to three words at the edges, at all places, and beyond them, with all words at the edges.
func TestSmallLists(t *testing.T) {
	lists := [][]uint64{nil}
	for first := 0; len(lists[first]) < 3; first++ {
		for _, x := range edges() {
			lists = append(lists, append(slices.Clone(lists[first]), x))
		}
	}
	if len(lists) != 1+4+16+64 {
		t.Fatal(len(lists), "lists")
	}
	for _, c := range lists {
		for i := -2; i <= len(c)+3; i++ {
			checkCalls(t, c, i, edges()...)
		}
		for _, other := range lists {
			same := len(c) == len(other)
			for k := range min(len(c), len(other)) {
				same = same && c[k] == other[k]
			}
			checkSame(t, c, other, same)
		}
	}
}

// P14.1: each call, of one cell with any word, and any other words.
func TestManyWords(t *testing.T) {
	for _, word := range manyWords() {
		checkCalls(t, []uint64{word}, 0, manyWords()...)
		checkCalls(t, []uint64{1, word, 0}, 1, manyWords()...)
	}
}

// P14.1: each call, of many cells, at each place; also of just as many as a machine may have, and of more, which the chapter doesn't refuse.
func TestManyCells(t *testing.T) {
	for _, n := range []int{1, 2, 5, 12, 31, 32, 33, 64, 255, 256, 257} {
		c := cellsOf(n)
		for i := range n {
			checkCalls(t, c, i, 0, 1, most, c[(i+1)%n])
		}
	}
	c := cellsOf(1 << 17)
	for _, i := range []int{0, 1, 1<<16 - 1, 1 << 16, 1<<17 - 1} {
		checkCalls(t, c, i, 1)
	}
}

// P14.1: what is answered is the caller's own: none of it is changed by what is done to another answer, or by a later call.
func TestAnswersStay(t *testing.T) {
	// With room to spare, which two answers could share.
	c := append(make([]uint64, 0, 16), 10, 20, 30)
	// All that calls answer of one list, each call made twice.
	var got, want [][]uint64
	keep := func(after []uint64, words ...uint64) {
		got, want = append(got, after), append(want, words)
	}
	for range 2 {
		stored, _ := cell.Store(c, 1, 21)
		keep(stored, 10, 21, 30)
		same, _ := cell.Store(c, 1, 20)
		keep(same, 10, 20, 30)
		swapped, _, _ := cell.Swap(c, 2, 30, 31)
		keep(swapped, 10, 20, 31)
		unlike, _, _ := cell.Swap(c, 2, 29, 31)
		keep(unlike, 10, 20, 30)
		alike, _, _ := cell.Swap(c, 2, 30, 30)
		keep(alike, 10, 20, 30)
		more, _, _ := cell.More(c, 0, 5)
		keep(more, 15, 20, 30)
		nothing, _, _ := cell.More(c, 0, 0)
		keep(nothing, 10, 20, 30)
		later, _ := cell.Store(stored, 1, 22)
		keep(later, 10, 22, 30)
	}
	keep(c, 10, 20, 30)
	for k := range got {
		if !slices.Equal(got[k], want[k]) {
			t.Errorf("answer %d is %d, not %d", k, got[k], want[k])
		}
	}
	for k := range got {
		for j := range got[k] {
			got[k][j] = 99
		}
		_ = append(got[k], 99)
		for o := k + 1; o < len(got); o++ {
			if !slices.Equal(got[o], want[o]) || !untouched(got[o]) {
				t.Fatalf("answer %d is changed with answer %d: %d", o, k, got[o])
			}
		}
	}
}

// untouched: does no 99 stand behind a list, in its spare room?
func untouched(c []uint64) bool {
	return !slices.Contains(c[:cap(c)], 99)
}

// P14.1: a call hangs on its arguments alone, whatever was called before.
func TestNothingIsKept(t *testing.T) {
	c := []uint64{5, 7}
	for range 3 {
		if after, was, ok := cell.Swap(c, 1, 7, 8); !ok || !was || !slices.Equal(after, []uint64{5, 8}) {
			t.Error("Swap:", after, was, ok)
		}
		if after, was, ok := cell.Swap(c, 1, 8, 7); !ok || was || !slices.Equal(after, c) {
			t.Error("Swap of another word:", after, was, ok)
		}
		if after, now, ok := cell.More(c, 0, 1); !ok || now != 6 || !slices.Equal(after, []uint64{6, 7}) {
			t.Error("More:", after, now, ok)
		}
		if word, ok := cell.Load(c, 0); !ok || word != 5 {
			t.Error("Load:", word, ok)
		}
	}
}

// othersStay looks whether cells are those that they came of but for the i-th one, and which word stands there.
func othersStay(t *testing.T, call string, c, after []uint64, i int) uint64 {
	t.Helper()
	if len(after) != len(c) {
		t.Fatalf("%s of %d cells: %d", call, len(c), len(after))
	}
	for k := range c {
		if k != i && after[k] != c[k] {
			t.Errorf("%s at %d: the cell %d is %#x, not %#x", call, i, k, after[k], c[k])
		}
	}
	return after[i]
}

// P14.2: a call changes one cell at most, the one that it names; Load shows what it is then.
func TestOneAlone(t *testing.T) {
	for _, n := range []int{1, 2, 3, 12, 32, 33, 100} {
		c := cellsOf(n)
		for i := range n {
			for _, x := range append(manyWords(), c[i], c[n-1-i]) {
				stored, _ := cell.Store(c, i, x)
				if word := othersStay(t, "Store", c, stored, i); word != x {
					t.Errorf("Store of %#x: %#x", x, word)
				}
				swapped, was, _ := cell.Swap(c, i, c[i], x)
				if word := othersStay(t, "Swap", c, swapped, i); word != x || !was {
					t.Errorf("Swap to %#x: %#x, %v", x, word, was)
				}
				left, was, _ := cell.Swap(c, i, c[i]+1, x)
				if word := othersStay(t, "Swap", c, left, i); word != c[i] || was {
					t.Errorf("Swap of another word: %#x, %v", word, was)
				}
				more, now, _ := cell.More(c, i, x)
				if word := othersStay(t, "More", c, more, i); word != now || word != sum(c[i], x) {
					t.Errorf("More by %#x: %#x, and %#x is told", x, word, now)
				}
				for _, after := range [][]uint64{stored, swapped, left, more} {
					if word, ok := cell.Load(after, i); !ok || word != after[i] {
						t.Errorf("Load: %#x, %v", word, ok)
					}
					if cell.Same(after, c) != (after[i] == c[i]) {
						t.Errorf("Same of %#x and %#x at %d", c[i], after[i], i)
					}
				}
			}
		}
	}
}

// P14.2: a swap that is undone leaves all as it was.
func TestSwapUndone(t *testing.T) {
	for _, n := range []int{1, 2, 3, 32, 33} {
		for i := range n {
			for _, old := range manyWords() {
				c := cellsOf(n)
				c[i] = old
				for _, x := range manyWords() {
					there, was, ok := cell.Swap(c, i, old, x)
					if !was || !ok || cell.Same(there, c) != (x == old) {
						t.Fatalf("Swap from %#x to %#x: %v, %v", old, x, was, ok)
					}
					back, was, ok := cell.Swap(there, i, x, old)
					if !was || !ok || !cell.Same(back, c) || !slices.Equal(back, c) {
						t.Fatalf("undone from %#x to %#x: %v, %v", x, old, was, ok)
					}
				}
			}
		}
	}
}

// P14.2: more, twice, is more by both, also where a sum is cut; so is less behind more.
func TestMoreTwice(t *testing.T) {
	for _, word := range manyWords() {
		c := []uint64{3, word, most, 0}
		for _, a := range manyWords() {
			once, _, _ := cell.More(c, 1, a)
			for _, b := range manyWords() {
				twice, now, ok := cell.More(once, 1, b)
				both, at, okBoth := cell.More(c, 1, sum(a, b))
				if !ok || !okBoth || now != at || !cell.Same(twice, both) || !slices.Equal(twice, both) {
					t.Errorf("%#x more by %#x and %#x: %#x, not %#x", word, a, b, now, at)
				}
			}
			if back, now, ok := cell.More(once, 1, -a); !ok || now != word || !cell.Same(back, c) {
				t.Errorf("%#x more and less by %#x: %#x", word, a, now)
			}
		}
	}
}

// outcome is a call, and what it told.
type outcome struct {
	call    string
	was, ok bool
}

// P14.1, P14.2: whatever is stored, swapped and made more, in any order: each cell holds what was done to it, and each call answers as the chapter says.
func TestInAnyOrder(t *testing.T) {
	met := map[outcome]int{}
	for seed := range 8 {
		x, n := uint64(seed+1), 1+5*seed
		c := make([]uint64, n)
		// What each cell must hold, of which no call knows.
		held := make([]uint64, n)
		for range 3000 {
			// Places from -1 to n, and few words, so that a swap often meets old.
			i, a, b := below(&x, n+2)-1, most-2+uint64(below(&x, 5)), most-2+uint64(below(&x, 5))
			want, after, o := wantLoad(held, i), []uint64(nil), outcome{}
			switch below(&x, 3) {
			case 0:
				checkStore(t, c, i, a)
				after, o.ok = cell.Store(c, i, a)
				o.call, want.word = "Store", a
			case 1:
				checkSwap(t, c, i, a, b)
				after, o.was, o.ok = cell.Swap(c, i, a, b)
				o.call = "Swap"
				if o.was {
					want.word = b
				}
			default:
				checkMore(t, c, i, a)
				after, _, o.ok = cell.More(c, i, a)
				o.call, want.word = "More", sum(want.word, a)
			}
			met[o]++
			if o.ok != want.ok {
				t.Fatalf("%s at %d of %d: %v", o.call, i, n, o.ok)
			}
			if o.ok {
				held[i], c = want.word, after
			}
			if !cell.Same(c, held) || !slices.Equal(c, held) {
				t.Fatalf("behind %s at %d: %#x, not %#x", o.call, i, c, held)
			}
			checkLoad(t, c, i)
		}
	}
	for _, o := range []outcome{
		{"Store", false, true}, {"Store", false, false}, {"Swap", true, true}, {"Swap", false, true},
		{"Swap", false, false}, {"More", false, true}, {"More", false, false},
	} {
		if met[o] == 0 {
			t.Error("never met:", o.call, o.was, o.ok)
		}
	}
}
