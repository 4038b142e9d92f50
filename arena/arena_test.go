package arena_test

import (
	"math"
	"slices"
	"testing"

	"torpor/api"
	"torpor/arena"
)

var (
	empty = api.Rec{Key: -1, Task: -1, Next: -1}
	used  = api.Rec{Next: -1}
	// odd are numbers at which no record is, whatever the arena.
	odd = []int{-1, -2, -64, 64, 65, 1 << 32, math.MinInt, math.MaxInt}
)

// freeTo is a free record that leads to another one.
func freeTo(next int) api.Rec {
	return api.Rec{Key: -1, Task: -1, Next: next}
}

// usedTo is one that isn't free, and leads to another one.
func usedTo(next int) api.Rec {
	return api.Rec{Key: 5, Task: 3, Next: next}
}

func of(free int, recs ...api.Rec) api.Arena {
	return api.Arena{Recs: recs, Free: free}
}

func same(a, b api.Arena) bool {
	return a.Free == b.Free && slices.Equal(a.Recs, b.Recs)
}

func cloned(a api.Arena) api.Arena {
	return api.Arena{Recs: slices.Clone(a.Recs), Free: a.Free}
}

// wantList is the free list, by the chapter's words; false, if it goes where it may not.
func wantList(a api.Arena) ([]int, bool) {
	var list []int
	for i := a.Free; i != -1; i = a.Recs[i].Next {
		if i < 0 || i >= len(a.Recs) || slices.Contains(list, i) || a.Recs[i].Key != -1 || a.Recs[i].Task != -1 {
			return nil, false
		}
		list = append(list, i)
	}
	return list, true
}

// wantRight is what Right must answer, by the chapter's words.
func wantRight(a api.Arena) bool {
	list, ok := wantList(a)
	if !ok || len(a.Recs) > 64 {
		return false
	}
	for i, r := range a.Recs {
		if slices.Contains(list, i) {
			continue
		}
		if r.Key < 0 || r.Task < 0 || r.Next < -1 || r.Next >= len(a.Recs) || slices.Contains(list, r.Next) {
			return false
		}
	}
	return true
}

// isUsed: is there such a record, that isn't of the free list?
func isUsed(a api.Arena, i int) bool {
	list, _ := wantList(a)
	return i >= 0 && i < len(a.Recs) && !slices.Contains(list, i)
}

// wantTake is what Take must answer, by the chapter's words.
func wantTake(a api.Arena, key, task int) (api.Arena, int, api.Errno) {
	list, _ := wantList(a)
	switch {
	case !wantRight(a) || key < 0 || task < 0:
		return a, 0, api.ErrArg
	case len(list) == 0:
		return a, 0, api.ErrFull
	}
	b := cloned(a)
	b.Recs[list[0]] = api.Rec{Key: key, Task: task, Next: -1}
	b.Free = append(list, -1)[1]
	return b, list[0], api.OK
}

// wantGive is what Give must answer, by the chapter's words.
func wantGive(a api.Arena, i int) (api.Arena, api.Errno) {
	switch {
	case !wantRight(a):
		return a, api.ErrArg
	case !isUsed(a, i):
		return a, api.ErrNone
	}
	for k, r := range a.Recs {
		if isUsed(a, k) && r.Next == i {
			return a, api.ErrThere
		}
	}
	b := cloned(a)
	b.Recs[i] = freeTo(a.Free)
	b.Free = i
	return b, api.OK
}

// wantSet is what Set must answer, by the chapter's words.
func wantSet(a api.Arena, i, next int) (api.Arena, api.Errno) {
	switch {
	case !wantRight(a):
		return a, api.ErrArg
	case !isUsed(a, i):
		return a, api.ErrNone
	case next != -1 && !isUsed(a, next):
		return a, api.ErrArg
	}
	b := cloned(a)
	b.Recs[i].Next = next
	return b, api.OK
}

// given is an arena with spare room behind its records, and how both were when it was made.
type given struct {
	arena api.Arena
	was   []api.Rec
}

func give(a api.Arena) given {
	recs := append(slices.Clone(a.Recs), api.Rec{Key: 77, Task: 78, Next: 79}, freeTo(0), empty)
	return given{api.Arena{Recs: recs[:len(a.Recs)], Free: a.Free}, slices.Clone(recs)}
}

// check holds an answer against the one that must be, looks whether what was handed in is as it was, and whether either is changed with the other one.
func (g given) check(t *testing.T, call string, got, want api.Arena, e, wantE api.Errno) {
	t.Helper()
	if !same(got, want) || e != wantE {
		t.Errorf("%s of %v: %v, %d, not %v, %d", call, g.arena, got, int(e), want, int(wantE))
	}
	all := g.arena.Recs[:len(g.was)]
	if !slices.Equal(all, g.was) {
		t.Errorf("%s changes what was handed in: %v", call, all)
	}
	want = cloned(want)
	for i := range all {
		all[i] = api.Rec{Key: 91, Task: 92, Next: 93}
	}
	if !same(got, want) {
		t.Errorf("%s: the answer is changed with what was handed in", call)
	}
	copy(all, g.was)
	for i := range got.Recs {
		got.Recs[i] = api.Rec{Key: 94, Task: 95, Next: 96}
	}
	// An answer's spare room is its own, too.
	_ = append(got.Recs, api.Rec{Key: 97})
	if !slices.Equal(all, g.was) {
		t.Errorf("%s: what was handed in is changed with the answer", call)
	}
}

func checkRight(t *testing.T, a api.Arena) {
	t.Helper()
	g := give(a)
	if got := arena.Right(g.arena); got != wantRight(a) {
		t.Errorf("Right(%v) = %v", a, got)
	}
	g.check(t, "Right", cloned(a), a, api.OK, api.OK)
}

func checkFree(t *testing.T, a api.Arena) {
	t.Helper()
	g := give(a)
	var want []int
	if wantRight(a) {
		want, _ = wantList(a)
	}
	if got := arena.Free(g.arena); !slices.Equal(got, want) {
		t.Errorf("Free(%v) = %v, not %v", a, got, want)
	}
	g.check(t, "Free", cloned(a), a, api.OK, api.OK)
}

func checkTake(t *testing.T, a api.Arena, key, task int) {
	t.Helper()
	g := give(a)
	b, place, e := arena.Take(g.arena, key, task)
	want, wantPlace, wantE := wantTake(a, key, task)
	if place != wantPlace {
		t.Errorf("Take(%v, %d, %d) is at %d, not at %d", a, key, task, place, wantPlace)
	}
	g.check(t, "Take", b, want, e, wantE)
}

func checkGive(t *testing.T, a api.Arena, i int) {
	t.Helper()
	g := give(a)
	b, e := arena.Give(g.arena, i)
	want, wantE := wantGive(a, i)
	g.check(t, "Give", b, want, e, wantE)
}

func checkSet(t *testing.T, a api.Arena, i, next int) {
	t.Helper()
	g := give(a)
	b, e := arena.Set(g.arena, i, next)
	want, wantE := wantSet(a, i, next)
	g.check(t, "Set", b, want, e, wantE)
}

// checkCalls holds each call of an arena against the chapter's words, at its places and beside them.
func checkCalls(t *testing.T, a api.Arena) {
	t.Helper()
	checkRight(t, a)
	checkFree(t, a)
	for _, x := range [][2]int{{0, 0}, {7, 3}, {math.MaxInt, math.MaxInt}, {-1, 0}, {0, -1}, {-1, -1}, {math.MinInt, 5}, {5, math.MinInt}} {
		checkTake(t, a, x[0], x[1])
	}
	places := slices.Clone(odd)
	for i := range min(len(a.Recs)+1, 66) {
		places = append(places, i)
	}
	for _, i := range places {
		checkGive(t, a, i)
		for _, next := range places {
			checkSet(t, a, i, next)
		}
	}
}

// made is an arena of so many records, of which some are taken.
func made(t *testing.T, n, takes int) api.Arena {
	t.Helper()
	a, e := arena.Make(n)
	for i := range takes {
		if e == api.OK {
			a, _, e = arena.Take(a, 10+i, i)
		}
	}
	if e != api.OK {
		t.Fatalf("%d taken of %d: %d", takes, n, int(e))
	}
	return a
}

// step is the next one of numbers without much order, the same ones each time.
func step(x *uint32, n int) int {
	*x = *x*1664525 + 1013904223
	return int(*x>>16) % n
}

// P7.1: Make, of 0, of 1, of 64, and of each number between; of more, and of fewer than 0.
func TestMake(t *testing.T) {
	for n := range 65 {
		a, e := arena.Make(n)
		want := api.Arena{Free: -1}
		var list []int
		for i := range n {
			want.Recs = append(want.Recs, freeTo(i+1))
			list = append(list, i)
		}
		if n > 0 {
			want.Recs[n-1].Next, want.Free = -1, 0
		}
		if !same(a, want) || e != api.OK || !arena.Right(a) || !slices.Equal(arena.Free(a), list) {
			t.Errorf("Make(%d) = %v, %d", n, a, int(e))
		}
	}
	for _, n := range []int{65, 66, 1 << 20, 1 << 32, math.MaxInt, -1, -2, -64, math.MinInt} {
		if a, e := arena.Make(n); e != api.ErrArg || a.Recs != nil || a.Free != 0 {
			t.Errorf("Make(%d) = %v, %d", n, a, int(e))
		}
	}
}

// P7.1: Make's records are the caller's own.
func TestMakeAnswersNewMemory(t *testing.T) {
	a, _ := arena.Make(5)
	clear(a.Recs)
	if b, _ := arena.Make(5); !slices.Equal(arena.Free(b), []int{0, 1, 2, 3, 4}) {
		t.Error("an answer is another one, since an earlier one was changed:", b)
	}
}

// P7.1: which arenas may be, written out; all calls of those that may not are refused, and answer the arena as it was.
func TestRightWrittenOut(t *testing.T) {
	for _, c := range []struct {
		what string
		want bool
		a    api.Arena
	}{
		{"without records", true, of(-1)},
		{"without records, but not nil", true, api.Arena{Recs: []api.Rec{}, Free: -1}},
		{"zero", false, api.Arena{}},
		{"one that is free", true, of(0, empty)},
		{"one that isn't free", true, of(-1, used)},
		{"one that leads to itself", true, of(-1, usedTo(0))},
		{"two that lead to each other", true, of(-1, usedTo(1), usedTo(0))},
		{"two that lead to one", true, of(-1, usedTo(2), usedTo(2), used)},
		{"the greatest key and task", true, of(-1, api.Rec{Key: math.MaxInt, Task: math.MaxInt, Next: -1})},
		{"a list in no order", true, of(2, freeTo(-1), used, freeTo(3), freeTo(0))},

		{"a list that leads to itself", false, of(0, freeTo(0))},
		{"a circle of two", false, of(0, freeTo(1), freeTo(0))},
		{"a circle of three", false, of(1, freeTo(1), freeTo(2), freeTo(0))},
		{"a circle behind a beginning", false, of(0, freeTo(1), freeTo(2), freeTo(1))},
		{"a circle that leads to itself behind a beginning", false, of(0, freeTo(1), freeTo(1))},
		{"a circle, and one that isn't free", false, of(0, freeTo(1), freeTo(0), used)},

		{"begins behind the last place", false, of(1, used)},
		{"begins behind the last place of none", false, of(0)},
		{"begins below -1", false, of(-2, used)},
		{"begins below -1, without records", false, of(-2)},
		{"begins at the least number", false, of(math.MinInt, used)},
		{"begins at the greatest number", false, of(math.MaxInt, used)},
		{"goes behind the last place", false, of(0, freeTo(1))},
		{"goes far behind the last place", false, of(0, freeTo(math.MaxInt))},
		{"goes below -1", false, of(0, freeTo(-2))},
		{"goes far below -1", false, of(0, freeTo(math.MinInt))},
		{"goes below -1 behind others", false, of(1, freeTo(-2), freeTo(0))},

		{"begins at one that isn't free", false, of(0, used)},
		{"goes over one that isn't free", false, of(0, freeTo(1), used)},
		{"over a Key of 0", false, of(0, api.Rec{Key: 0, Task: -1, Next: -1})},
		{"over a Key below -1", false, of(0, api.Rec{Key: -2, Task: -1, Next: -1})},
		{"over a Task of 0", false, of(0, api.Rec{Key: -1, Task: 0, Next: -1})},
		{"over a Task below -1", false, of(0, api.Rec{Key: -1, Task: -2, Next: -1})},
		{"over a Key of 0 at its end", false, of(1, api.Rec{Key: 0, Task: -1, Next: -1}, freeTo(0))},
		{"over a Task of 0 at its end", false, of(1, api.Rec{Key: -1, Task: 0, Next: -1}, freeTo(0))},

		{"an empty one that isn't of the list", false, of(-1, empty)},
		{"an empty one beside the list", false, of(0, empty, empty)},
		{"an empty one that leads to the list", false, of(0, empty, freeTo(0))},
		{"a Key below 0", false, of(-1, api.Rec{Key: -1, Task: 0, Next: -1})},
		{"a Task below 0", false, of(-1, api.Rec{Key: 0, Task: -1, Next: -1})},
		{"a Key below -1", false, of(-1, used, api.Rec{Key: -2, Task: 0, Next: -1})},
		{"a Task below -1", false, of(-1, used, api.Rec{Key: 0, Task: -2, Next: -1})},
		{"the least Key", false, of(-1, api.Rec{Key: math.MinInt, Next: -1})},
		{"the least Task", false, of(-1, api.Rec{Task: math.MinInt, Next: -1})},

		{"a Next below -1", false, of(-1, usedTo(-2))},
		{"the least Next", false, of(-1, usedTo(math.MinInt))},
		{"a Next past the last place", false, of(-1, usedTo(1))},
		{"the greatest Next", false, of(-1, usedTo(math.MaxInt))},
		{"a Next of the list", false, of(1, usedTo(1), empty)},
		{"a Next at the list's end", false, of(1, usedTo(2), freeTo(2), empty)},
		{"the last one's Next of the list", false, of(0, empty, used, usedTo(0))},
		{"a Next that is empty, and not of the list", false, of(-1, usedTo(1), empty)},
	} {
		if wantRight(c.a) != c.want || arena.Right(c.a) != c.want {
			t.Errorf("%s: %v", c.what, arena.Right(c.a))
		}
		checkCalls(t, c.a)
		if c.want {
			continue
		}
		for _, i := range []int{-1, 0, 1} {
			if b, e := arena.Give(c.a, i); e != api.ErrArg || !same(b, c.a) {
				t.Errorf("%s: Give: %v, %d", c.what, b, int(e))
			}
			if b, e := arena.Set(c.a, i, -1); e != api.ErrArg || !same(b, c.a) {
				t.Errorf("%s: Set: %v, %d", c.what, b, int(e))
			}
		}
		if b, place, e := arena.Take(c.a, 1, 1); e != api.ErrArg || place != 0 || !same(b, c.a) {
			t.Errorf("%s: Take: %v, %d, %d", c.what, b, place, int(e))
		}
		if l := arena.Free(c.a); len(l) != 0 {
			t.Errorf("%s: Free: %v", c.what, l)
		}
	}
}

// P7.1: 64 records may be, free or not, and no more.
func TestRightOfMany(t *testing.T) {
	all := func(n int, r api.Rec) api.Arena { return api.Arena{Recs: slices.Repeat([]api.Rec{r}, n), Free: -1} }
	list := func(n int) api.Arena {
		a := api.Arena{Free: -1}
		for i := range n {
			a.Recs = append(a.Recs, freeTo(i-1))
			a.Free = i
		}
		return a
	}
	for n, want := range map[int]bool{1: true, 63: true, 64: true, 65: false, 66: false, 128: false, 1000: false, 100000: false} {
		for i, a := range []api.Arena{all(n, used), all(n, usedTo(n-1)), list(n)} {
			if arena.Right(a) != want {
				t.Errorf("%d records of the kind %d: %v", n, i, arena.Right(a))
			}
			if n > 100 {
				continue
			}
			if wantRight(a) != want {
				t.Fatal("the words themselves", n, i)
			}
			checkCalls(t, a)
		}
	}
	closed := list(64)
	closed.Recs[0].Next = 63
	late := all(64, used)
	late.Recs[63].Next = 64
	for i, a := range []api.Arena{closed, late} {
		if arena.Right(a) {
			t.Error("of 64", i)
		}
		checkCalls(t, a)
	}
}

// P7.1: all arenas of up to three records of few kinds, right or not: each call, held against the chapter's words.
func TestSmallArenas(t *testing.T) {
	pairs := [][2]int{{-1, -1}, {0, 0}, {4, 1}, {-1, 0}, {0, -1}, {-2, 0}, {0, -2}, {-2, -1}, {-1, -2}}
	kinds := func(n, pairsUsed int) []api.Rec {
		var list []api.Rec
		for _, p := range pairs[:pairsUsed] {
			for next := -2; next <= n; next++ {
				list = append(list, api.Rec{Key: p[0], Task: p[1], Next: next})
			}
		}
		return list
	}
	rights := 0
	look := func(recs ...api.Rec) {
		for free := -2; free <= len(recs); free++ {
			a := of(free, recs...)
			if wantRight(a) {
				rights++
				checkCalls(t, a)
				continue
			}
			checkRight(t, a)
			checkFree(t, a)
			checkTake(t, a, 1, 1)
			checkGive(t, a, 0)
			checkSet(t, a, 0, -1)
		}
	}
	look()
	for _, r := range kinds(1, len(pairs)) {
		look(r)
	}
	two := kinds(2, len(pairs))
	for _, r := range two {
		for _, s := range two {
			look(r, s)
		}
	}
	three := kinds(3, 2)
	for _, r := range three {
		for _, s := range three {
			for _, u := range three {
				look(r, s, u)
			}
		}
	}
	// By the chapter's words, counted by hand: 1 without records, 5 of one, 46 of two, and 109 of three.
	if rights != 1+5+46+109 {
		t.Error("so many of them may be:", rights)
	}
}

// P7.1: Take, of the first one of the list, of the last free one, and of none; the chapter's example, too.
func TestTake(t *testing.T) {
	a := made(t, 3, 0)
	a, place, e := arena.Take(a, 7, 2)
	if want := of(1, api.Rec{Key: 7, Task: 2, Next: -1}, freeTo(2), empty); !same(a, want) || place != 0 || e != api.OK {
		t.Error(a, place, int(e))
	}
	a, place, e = arena.Take(a, math.MaxInt, 0)
	if want := of(2, api.Rec{Key: 7, Task: 2, Next: -1}, api.Rec{Key: math.MaxInt, Task: 0, Next: -1}, empty); !same(a, want) || place != 1 || e != api.OK {
		t.Error(a, place, int(e))
	}
	freed, e := arena.Give(a, 0)
	if l := arena.Free(freed); e != api.OK || !slices.Equal(l, []int{0, 2}) {
		t.Error(l, int(e))
	}
	if _, place, e := arena.Take(freed, 1, 1); place != 0 || e != api.OK {
		t.Error("0 is the next one:", place, int(e))
	}
	last, place, e := arena.Take(a, 0, 9)
	if want := of(-1, a.Recs[0], a.Recs[1], api.Rec{Key: 0, Task: 9, Next: -1}); !same(last, want) || place != 2 || e != api.OK {
		t.Error(last, place, int(e))
	}
	for _, full := range []api.Arena{last, of(-1), made(t, 1, 1), made(t, 64, 64)} {
		if b, place, e := arena.Take(full, 1, 1); e != api.ErrFull || place != 0 || !same(b, full) {
			t.Errorf("Take of the full %v: %v, %d, %d", full, b, place, int(e))
		}
	}
}

// P7.1: Take with a key or a task below 0 is refused, also where none is free.
func TestTakeBelowNone(t *testing.T) {
	for _, a := range []api.Arena{made(t, 2, 0), made(t, 2, 1), made(t, 2, 2), of(-1)} {
		for _, x := range [][2]int{{-1, 0}, {0, -1}, {-1, -1}, {-2, 3}, {3, -2}, {math.MinInt, 0}, {0, math.MinInt}, {-1, math.MaxInt}} {
			if b, place, e := arena.Take(a, x[0], x[1]); e != api.ErrArg || place != 0 || !same(b, a) {
				t.Errorf("Take(%v, %d, %d) = %v, %d, %d", a, x[0], x[1], b, place, int(e))
			}
		}
	}
}

// P7.1: Give, of one that isn't there, of a free one, of the Next of another one and of itself.
func TestGive(t *testing.T) {
	a := of(1, usedTo(2), freeTo(4), usedTo(2), used, empty, usedTo(-1))
	for i, want := range map[int]api.Errno{
		0: api.OK, 1: api.ErrNone, 2: api.ErrThere, 3: api.OK, 4: api.ErrNone, 5: api.OK,
		6: api.ErrNone, -1: api.ErrNone, -2: api.ErrNone, 64: api.ErrNone, math.MaxInt: api.ErrNone, math.MinInt: api.ErrNone,
	} {
		b, e := arena.Give(a, i)
		if e != want || want != api.OK && !same(b, a) {
			t.Errorf("Give(%d) = %v, %d, not %d", i, b, int(e), int(want))
		}
		if e == api.OK && (b.Recs[i] != freeTo(1) || !slices.Equal(arena.Free(b), []int{i, 1, 4})) {
			t.Errorf("Give(%d) = %v", i, b)
		}
	}
	itself := of(-1, usedTo(0))
	if b, e := arena.Give(itself, 0); e != api.ErrThere || !same(b, itself) {
		t.Error("of one that leads to itself:", b, int(e))
	}
	// Just who leads to it is given first; then so is it.
	pair := of(-1, used, usedTo(0))
	if b, e := arena.Give(pair, 0); e != api.ErrThere || !same(b, pair) {
		t.Error("of one that is led to:", b, int(e))
	}
	b, e := arena.Give(pair, 1)
	if want := of(1, used, empty); e != api.OK || !same(b, want) {
		t.Error(b, int(e))
	}
	b, e = arena.Give(b, 0)
	if want := of(0, freeTo(1), empty); e != api.OK || !same(b, want) {
		t.Error(b, int(e))
	}
	if b, e := arena.Give(b, 0); e != api.ErrNone || !slices.Equal(arena.Free(b), []int{0, 1}) {
		t.Error("of one that was given already:", b, int(e))
	}
}

// P7.1: Set, to -1, to itself, to another one, to a free one, to one that isn't there; of a free one, and of one that isn't there.
func TestSet(t *testing.T) {
	a := of(1, usedTo(2), freeTo(4), usedTo(2), used, empty, usedTo(-1))
	for _, c := range []struct {
		i, next int
		e       api.Errno
	}{
		{0, -1, api.OK}, {0, 0, api.OK}, {0, 2, api.OK}, {0, 3, api.OK}, {0, 5, api.OK}, {2, -1, api.OK}, {2, 0, api.OK}, {5, 5, api.OK}, {5, 2, api.OK}, {3, -1, api.OK},
		{0, 1, api.ErrArg}, {0, 4, api.ErrArg}, {0, 6, api.ErrArg}, {0, -2, api.ErrArg}, {0, 64, api.ErrArg}, {0, math.MaxInt, api.ErrArg}, {5, math.MinInt, api.ErrArg},
		{1, -1, api.ErrNone}, {1, 0, api.ErrNone}, {4, 4, api.ErrNone}, {1, 4, api.ErrNone}, {6, -1, api.ErrNone}, {6, 0, api.ErrNone}, {-1, -1, api.ErrNone}, {-1, 0, api.ErrNone},
		{-2, 3, api.ErrNone}, {1, 99, api.ErrNone}, {6, -2, api.ErrNone}, {-1, 1, api.ErrNone}, {math.MaxInt, 0, api.ErrNone}, {math.MinInt, math.MinInt, api.ErrNone},
	} {
		want := cloned(a)
		if c.e == api.OK {
			want.Recs[c.i].Next = c.next
		}
		if b, e := arena.Set(a, c.i, c.next); e != c.e || !same(b, want) {
			t.Errorf("Set(%d, %d) = %v, %d, not %v, %d", c.i, c.next, b, int(e), want, int(c.e))
		}
	}
}

// P7.1: the free list, in its order, whatever that is.
func TestFree(t *testing.T) {
	for _, c := range []struct {
		a    api.Arena
		want []int
	}{
		{of(-1), nil}, {of(-1, used, used), nil}, {of(0, empty), []int{0}},
		{of(2, freeTo(-1), used, freeTo(3), freeTo(0)), []int{2, 3, 0}},
		{of(1, freeTo(2), freeTo(0), empty), []int{1, 0, 2}},
		{of(2, empty, freeTo(0), freeTo(1)), []int{2, 1, 0}},
	} {
		got := arena.Free(c.a)
		if !slices.Equal(got, c.want) {
			t.Errorf("Free(%v) = %v, not %v", c.a, got, c.want)
		}
		for i := range got {
			got[i] = 99
		}
		if again := arena.Free(c.a); !slices.Equal(again, c.want) {
			t.Errorf("Free(%v) is %v, since an earlier answer was changed", c.a, again)
		}
	}
}

// P7.1: a call hangs on its arguments alone, and changes none of what was answered earlier.
func TestAnswersStay(t *testing.T) {
	first := made(t, 4, 1)
	was := cloned(first)
	x, _, _ := arena.Take(first, 8, 8)
	y, _, _ := arena.Take(first, 9, 9)
	z, _ := arena.Set(x, 1, 0)
	w, _ := arena.Give(z, 1)
	if !same(first, was) || x.Recs[1].Key != 8 || x.Recs[1].Next != -1 || y.Recs[1].Key != 9 || z.Recs[1].Next != 0 || !slices.Equal(arena.Free(w), []int{1, 2, 3}) {
		t.Error(first, x, y, z, w)
	}
}

// checkAlone looks whether each record is either taken or free, and as many as there are in all.
func checkAlone(t *testing.T, a api.Arena, holds map[int]api.Rec, n int) {
	t.Helper()
	list := arena.Free(a)
	if !arena.Right(a) || len(a.Recs) != n || len(list)+len(holds) != n {
		t.Fatalf("%v: %d are free, %d taken, of %d", a, len(list), len(holds), n)
	}
	for place, r := range holds {
		if slices.Contains(list, place) || a.Recs[place] != r {
			t.Fatalf("%v: the one at %d isn't %v any more", a, place, r)
		}
	}
	met := map[int]int{}
	for _, place := range list {
		met[place]++
		if met[place] > 1 || place < 0 || place >= n {
			t.Fatalf("%v: the free list %v", a, list)
		}
	}
}

// P7.2: what is taken is free no more till it is given, in which order ever it is taken and given.
func TestAloneInAnyOrder(t *testing.T) {
	for seed, n := range []int{0, 1, 2, 3, 5, 17, 64} {
		x := uint32(seed)
		a := made(t, n, 0)
		list := arena.Free(a)
		holds := map[int]api.Rec{}
		for round := range 1500 {
			switch step(&x, 3) {
			case 0, 1:
				// Times in which more is taken than given, and the other way.
				if round/150%2 == 1 && step(&x, 2) == 0 {
					continue
				}
				b, place, e := arena.Take(a, round, seed)
				if len(list) == 0 {
					if e != api.ErrFull || !same(b, a) {
						t.Fatal("of none that is free", b, int(e))
					}
					continue
				}
				if e != api.OK || place != list[0] {
					t.Fatal(place, int(e), list)
				}
				a, list = b, list[1:]
				holds[place] = api.Rec{Key: round, Task: seed, Next: -1}
			case 2:
				if n == 0 {
					continue
				}
				place := step(&x, n)
				b, e := arena.Give(a, place)
				if _, ok := holds[place]; !ok {
					if e != api.ErrNone || !same(b, a) {
						t.Fatal("of one that is free", b, int(e))
					}
					continue
				}
				if e != api.OK {
					t.Fatal(place, int(e))
				}
				a, list = b, append([]int{place}, list...)
				delete(holds, place)
			}
			if !slices.Equal(arena.Free(a), list) {
				t.Fatalf("the free list is %v, not %v", arena.Free(a), list)
			}
			checkAlone(t, a, holds, n)
		}
	}
}

// P7.2: what is taken, and given, leaves the free list as it was, and so all of the arena.
func TestTakenAndGiven(t *testing.T) {
	x := uint32(1)
	for n := 1; n <= 64; n++ {
		a := made(t, n, step(&x, n+1))
		// Some are given, so that the list isn't in the order of the places.
		for range n / 2 {
			a, _ = arena.Give(a, step(&x, n))
		}
		for i := range a.Recs {
			a, _ = arena.Set(a, i, step(&x, n))
		}
		var places []int
		b := a
		for range arena.Free(a) {
			c, place, e := arena.Take(b, 1, 2)
			if e != api.OK {
				t.Fatal(int(e))
			}
			if back, e := arena.Give(c, place); e != api.OK || !same(back, b) {
				t.Errorf("%v, behind one that came and went: %v, %d", b, back, int(e))
			}
			b, places = c, append(places, place)
		}
		if !slices.Equal(places, arena.Free(a)) || len(arena.Free(b)) != 0 {
			t.Errorf("%v are taken in turn, of the list %v", places, arena.Free(a))
		}
		slices.Reverse(places)
		for _, place := range places {
			b, _ = arena.Give(b, place)
		}
		if !same(b, a) {
			t.Errorf("all that is free, taken and given: %v, not %v", b, a)
		}
	}
}

// P7.2: given in another order the list is another one, of the same records.
func TestGivenInAnyOrder(t *testing.T) {
	x := uint32(9)
	for n := 1; n <= 64; n++ {
		a := made(t, n, n)
		var order []int
		for range n {
			order = append(order, len(order))
		}
		for i := range order {
			k := step(&x, i+1)
			order[i], order[k] = order[k], order[i]
		}
		for _, place := range order {
			b, e := arena.Give(a, place)
			if e != api.OK || arena.Free(b)[0] != place {
				t.Fatal(b, place, int(e))
			}
			a = b
		}
		slices.Reverse(order)
		if got := arena.Free(a); !slices.Equal(got, order) {
			t.Errorf("the free list is %v, not %v", got, order)
		}
		for _, place := range order {
			b, got, e := arena.Take(a, 3, 3)
			if e != api.OK || got != place {
				t.Fatal(got, place, int(e))
			}
			a = b
		}
	}
}

// P7.2: what is taken keeps its Next, whatever comes and goes beside it, and is given only when nobody leads to it any more.
func TestChain(t *testing.T) {
	const n = 64
	a := made(t, n, n)
	for i := range n - 1 {
		a, _ = arena.Set(a, i, i+1)
	}
	for i := range n {
		if i < n-1 {
			if b, e := arena.Give(a, i+1); e != api.ErrThere || !same(b, a) {
				t.Fatalf("Give(%d), to which %d leads: %d", i+1, i, int(e))
			}
		}
		b, e := arena.Give(a, i)
		if e != api.OK || len(arena.Free(b)) != i+1 || !arena.Right(b) {
			t.Fatal(i, int(e))
		}
		a = b
	}
}
