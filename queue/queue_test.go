package queue_test

import (
	"math"
	"slices"
	"testing"

	"torpor/api"
	"torpor/arena"
	"torpor/queue"
)

var (
	empty = api.Rec{Key: -1, Task: -1, Next: -1}
	none  = api.Queue{Head: -1, Tail: -1}
)

// freeTo is a free record that leads to another one.
func freeTo(next int) api.Rec {
	return api.Rec{Key: -1, Task: -1, Next: next}
}

// taskTo is one that isn't free, of a task, and leads to another one.
func taskTo(task, next int) api.Rec {
	return api.Rec{Key: 6, Task: task, Next: next}
}

func of(free int, recs ...api.Rec) api.Arena {
	return api.Arena{Recs: recs, Free: free}
}

func from(head, tail int) api.Queue {
	return api.Queue{Head: head, Tail: tail}
}

func same(a, b api.Arena) bool {
	return a.Free == b.Free && slices.Equal(a.Recs, b.Recs)
}

func cloned(a api.Arena) api.Arena {
	return api.Arena{Recs: slices.Clone(a.Recs), Free: a.Free}
}

// answer is all that a call may answer; calls with fewer results leave the others 0.
type answer struct {
	a    api.Arena
	q    api.Queue
	task int
	e    api.Errno
}

// wantRow is a queue's places, by the chapter's words; false, if it may not be.
func wantRow(a api.Arena, q api.Queue) ([]int, bool) {
	if !arena.Right(a) {
		return nil, false
	}
	free := arena.Free(a)
	var row []int
	for i := q.Head; i != -1; i = a.Recs[i].Next {
		if i < 0 || i >= len(a.Recs) || slices.Contains(free, i) || slices.Contains(row, i) {
			return nil, false
		}
		row = append(row, i)
	}
	if len(row) == 0 {
		return nil, q == none
	}
	return row, row[len(row)-1] == q.Tail
}

// laid is an arena whose records at these places are a row, and that row's queue.
func laid(a api.Arena, row []int) (api.Arena, api.Queue) {
	a = cloned(a)
	if len(row) == 0 {
		return a, none
	}
	last := len(row) - 1
	for k, i := range row[:last] {
		a.Recs[i].Next = row[k+1]
	}
	a.Recs[row[last]].Next = -1
	return a, from(row[0], row[last])
}

// wantPush is what Push must answer, by the chapter's words.
func wantPush(a api.Arena, q api.Queue, key, task int, front bool) answer {
	row, ok := wantRow(a, q)
	free := arena.Free(a)
	switch {
	case !ok || key < 0 || task < 0:
		return answer{a, q, 0, api.ErrArg}
	case len(free) == 0:
		return answer{a, q, 0, api.ErrFull}
	}
	b := cloned(a)
	b.Free = append(free, -1)[1]
	b.Recs[free[0]] = api.Rec{Key: key, Task: task}
	if front {
		row = append([]int{free[0]}, row...)
	} else {
		row = append(row, free[0])
	}
	b, p := laid(b, row)
	return answer{b, p, 0, api.OK}
}

// wantWithout is what must come of it, if the row's record k goes.
func wantWithout(a api.Arena, q api.Queue, row []int, k int) answer {
	i := row[k]
	for from, r := range a.Recs {
		ahead := k > 0 && from == row[k-1]
		if r.Key >= 0 && r.Next == i && !ahead {
			return answer{a, q, 0, api.ErrThere}
		}
	}
	b, p := laid(a, slices.Delete(slices.Clone(row), k, k+1))
	b.Recs[i] = freeTo(a.Free)
	b.Free = i
	return answer{b, p, 0, api.OK}
}

// wantPop is what Pop must answer, by the chapter's words.
func wantPop(a api.Arena, q api.Queue) answer {
	row, ok := wantRow(a, q)
	switch {
	case !ok:
		return answer{a, q, 0, api.ErrArg}
	case len(row) == 0:
		return answer{a, q, 0, api.ErrNone}
	}
	w := wantWithout(a, q, row, 0)
	if w.e == api.OK {
		w.task = a.Recs[row[0]].Task
	}
	return w
}

// wantDrop is what Drop must answer, by the chapter's words.
func wantDrop(a api.Arena, q api.Queue, task int) answer {
	row, ok := wantRow(a, q)
	if !ok {
		return answer{a, q, 0, api.ErrArg}
	}
	for k, i := range row {
		if a.Recs[i].Task == task {
			return wantWithout(a, q, row, k)
		}
	}
	return answer{a, q, 0, api.ErrNone}
}

// given is an arena with spare room behind its records, and how both were when it was made.
type given struct {
	arena api.Arena
	was   []api.Rec
}

func give(a api.Arena) given {
	recs := append(slices.Clone(a.Recs), api.Rec{Key: 77, Task: 78, Next: 79}, freeTo(0), empty)
	return given{api.Arena{Recs: recs[:len(a.Recs)], Free: a.Free}, slices.Clone(recs)}
}

// unchanged looks whether what was handed in is as it was.
func (g given) unchanged(t *testing.T, call string) {
	t.Helper()
	if all := g.arena.Recs[:len(g.was)]; !slices.Equal(all, g.was) {
		t.Errorf("%s changes what was handed in: %v, not %v", call, all, g.was)
	}
}

// check holds an answer against the one that must be, looks whether what was handed in is as it was, and whether either is changed with the other one.
func (g given) check(t *testing.T, call string, q api.Queue, got, want answer) {
	t.Helper()
	if !same(got.a, want.a) || got.q != want.q || got.task != want.task || got.e != want.e {
		t.Errorf("%s of %v, %v: %v, not %v", call, g.arena, q, got, want)
	}
	g.unchanged(t, call)
	all, answered := g.arena.Recs[:len(g.was)], cloned(got.a)
	for i := range all {
		all[i] = api.Rec{Key: 91, Task: 92, Next: 93}
	}
	if !same(got.a, answered) {
		t.Errorf("%s: the answer is changed with what was handed in", call)
	}
	copy(all, g.was)
	for i := range got.a.Recs {
		got.a.Recs[i] = api.Rec{Key: 94, Task: 95, Next: 96}
	}
	// An answer's spare room is its own, too.
	_ = append(got.a.Recs, api.Rec{Key: 97})
	g.unchanged(t, call+"'s answer, when it is written to,")
}

func checkLooks(t *testing.T, a api.Arena, q api.Queue) {
	t.Helper()
	g := give(a)
	row, ok := wantRow(a, q)
	if got := queue.Right(g.arena, q); got != ok {
		t.Errorf("Right(%v, %v) = %v", a, q, got)
	}
	g.unchanged(t, "Right")
	if !ok {
		row = nil
	}
	if got := queue.Places(g.arena, q); !slices.Equal(got, row) {
		t.Errorf("Places(%v, %v) = %v, not %v", a, q, got, row)
	}
	g.unchanged(t, "Places")
	var tasks []int
	for _, i := range row {
		tasks = append(tasks, a.Recs[i].Task)
	}
	if got := queue.Tasks(g.arena, q); !slices.Equal(got, tasks) {
		t.Errorf("Tasks(%v, %v) = %v, not %v", a, q, got, tasks)
	}
	g.unchanged(t, "Tasks")
}

func checkPush(t *testing.T, a api.Arena, q api.Queue, key, task int, front bool) {
	t.Helper()
	g := give(a)
	b, p, e := queue.Push(g.arena, q, key, task, front)
	call := "Push to the end"
	if front {
		call = "Push to the front"
	}
	g.check(t, call, q, answer{b, p, 0, e}, wantPush(a, q, key, task, front))
}

func checkPop(t *testing.T, a api.Arena, q api.Queue) {
	t.Helper()
	g := give(a)
	b, p, task, e := queue.Pop(g.arena, q)
	g.check(t, "Pop", q, answer{b, p, task, e}, wantPop(a, q))
}

func checkDrop(t *testing.T, a api.Arena, q api.Queue, task int) {
	t.Helper()
	g := give(a)
	b, p, e := queue.Drop(g.arena, q, task)
	g.check(t, "Drop", q, answer{b, p, 0, e}, wantDrop(a, q, task))
}

// checkCalls holds each call of a queue against the chapter's words.
func checkCalls(t *testing.T, a api.Arena, q api.Queue) {
	t.Helper()
	checkLooks(t, a, q)
	checkPop(t, a, q)
	for _, front := range []bool{false, true} {
		for _, x := range [][2]int{{0, 0}, {7, 3}, {math.MaxInt, math.MaxInt}, {-1, 0}, {0, -1}, {math.MinInt, math.MinInt}} {
			checkPush(t, a, q, x[0], x[1], front)
		}
	}
	for _, task := range []int{0, 1, 2, 3, -1, math.MaxInt, math.MinInt} {
		checkDrop(t, a, q, task)
	}
}

// made is an arena of so many records, all free.
func made(t *testing.T, n int) api.Arena {
	t.Helper()
	a, e := arena.Make(n)
	if e != api.OK {
		t.Fatalf("an arena of %d: %d", n, int(e))
	}
	return a
}

// pushed is an arena and a queue behind some more tasks.
func pushed(t *testing.T, a api.Arena, q api.Queue, front bool, tasks ...int) (api.Arena, api.Queue) {
	t.Helper()
	for _, task := range tasks {
		var e api.Errno
		if a, q, e = queue.Push(a, q, 6, task, front); e != api.OK {
			t.Fatalf("Push of %d: %d", task, int(e))
		}
	}
	return a, q
}

// step is the next one of numbers without much order, the same ones each time.
func step(x *uint32, n int) int {
	*x = *x*1664525 + 1013904223
	return int(*x>>16) % n
}

// P8.1: which queues may be, written out; all calls of those that may not are refused, and answer both as they were.
func TestRightWrittenOut(t *testing.T) {
	three := of(3, taskTo(10, 1), taskTo(11, 2), taskTo(12, -1), freeTo(4), empty)
	turned := of(-1, taskTo(10, -1), taskTo(11, 0), taskTo(12, 1))
	for _, c := range []struct {
		what string
		want bool
		a    api.Arena
		q    api.Queue
	}{
		{"empty", true, three, none},
		{"empty, of no records", true, of(-1), none},
		{"empty, of an arena without a free one", true, turned, none},
		{"one", true, of(-1, taskTo(1, -1)), from(0, 0)},
		{"two", true, three, from(1, 2)},
		{"three", true, three, from(0, 2)},
		{"the end of another one", true, three, from(2, 2)},
		{"three, their places falling", true, turned, from(2, 0)},
		{"two, their places falling", true, turned, from(1, 0)},
		{"of several keys", true, of(-1, api.Rec{Key: 0, Task: 1, Next: 1}, api.Rec{Key: math.MaxInt, Task: 1, Next: -1}), from(0, 1)},
		{"beside a circle", true, of(-1, taskTo(1, 0), taskTo(2, -1)), from(1, 1)},
		{"to which a circle doesn't lead", true, of(-1, taskTo(1, 1), taskTo(2, 0), taskTo(3, 3), taskTo(4, -1)), from(2, 3)},

		{"zero, of the zero arena", false, api.Arena{}, api.Queue{}},
		{"empty, of the zero arena", false, api.Arena{}, none},
		{"empty, of an arena with an empty record beside its list", false, of(-1, empty), none},
		{"of an arena with a Task below 0", false, of(-1, taskTo(1, -1), taskTo(-1, -1)), from(0, 0)},
		{"of an arena whose free list goes in a circle", false, of(1, taskTo(1, -1), freeTo(1)), from(0, 0)},
		{"of an arena whose free list goes below -1", false, of(-2, taskTo(1, -1)), from(0, 0)},
		{"of an arena with a Next behind the last place", false, of(-1, taskTo(1, -1), taskTo(2, 2)), from(0, 0)},
		{"that leads behind the last place", false, of(-1, taskTo(1, 1)), from(0, 0)},
		{"that leads below -1", false, of(-1, taskTo(1, -2)), from(0, 0)},
		{"that leads to a free record", false, of(1, taskTo(1, 1), empty), from(0, 1)},
		{"that leads to a free record behind its Tail", false, of(1, taskTo(1, 1), empty), from(0, 0)},

		{"a circle of one", false, of(-1, taskTo(1, 0)), from(0, 0)},
		{"a circle of two", false, of(-1, taskTo(1, 1), taskTo(2, 0)), from(0, 1)},
		{"a circle of three, and its second one", false, of(-1, taskTo(1, 1), taskTo(2, 2), taskTo(3, 0)), from(1, 0)},
		{"a circle behind a beginning", false, of(-1, taskTo(1, 1), taskTo(2, 2), taskTo(3, 1)), from(0, 2)},
		{"one that leads to itself behind a beginning", false, of(-1, taskTo(1, 1), taskTo(2, 1)), from(0, 1)},
		{"a circle, beside free ones", false, of(2, taskTo(1, 1), taskTo(2, 0), freeTo(3), empty), from(0, 1)},
		{"a circle whose Tail is -1", false, of(-1, taskTo(1, 0)), from(0, -1)},

		{"begins at a free record", false, three, from(3, 3)},
		{"begins at a free record, and ends with the list", false, three, from(3, 4)},
		{"begins at the last free record", false, three, from(4, 4)},
		{"begins behind the last place", false, three, from(5, 5)},
		{"begins behind the last place of none", false, of(-1), from(0, 0)},
		{"begins behind 64 places", false, three, from(64, 2)},
		{"begins at the greatest number", false, three, from(math.MaxInt, 2)},
		{"begins below -1", false, three, from(-2, 2)},
		{"begins and ends below -1", false, three, from(-2, -2)},
		{"begins at the least number", false, three, from(math.MinInt, math.MinInt)},

		{"ends ahead of its last one", false, three, from(0, 1)},
		{"ends at its first one", false, three, from(0, 0)},
		{"ends at none", false, three, from(0, -1)},
		{"ends below -1", false, three, from(0, -2)},
		{"ends at a free record", false, three, from(0, 3)},
		{"ends behind the last place", false, three, from(0, 5)},
		{"ends at the greatest number", false, three, from(0, math.MaxInt)},
		{"ends at one of another row", false, of(-1, taskTo(1, -1), taskTo(2, -1)), from(0, 1)},
		{"ends ahead of where it begins", false, three, from(2, 0)},
		{"one, that ends at none", false, three, from(2, -1)},

		{"begins at none, and ends at the last one", false, three, from(-1, 2)},
		{"begins at none, and ends at the first one", false, three, from(-1, 0)},
		{"begins at none, and ends at a free one", false, three, from(-1, 4)},
		{"begins at none, and ends below -1", false, three, from(-1, -2)},
		{"begins at none, and ends at the least number", false, three, from(-1, math.MinInt)},
		{"begins at none, and ends behind the last place", false, three, from(-1, 5)},
	} {
		if _, ok := wantRow(c.a, c.q); ok != c.want || queue.Right(c.a, c.q) != c.want {
			t.Errorf("%s: %v", c.what, queue.Right(c.a, c.q))
		}
		checkCalls(t, c.a, c.q)
		if !c.want {
			checkRefused(t, c.what, c.a, c.q)
		}
	}
}

// checkRefused looks whether each call refuses a queue that may not be; so, too, where other errors apply.
func checkRefused(t *testing.T, what string, a api.Arena, q api.Queue) {
	t.Helper()
	if l := queue.Places(a, q); len(l) != 0 {
		t.Errorf("%s: Places: %v", what, l)
	}
	if l := queue.Tasks(a, q); len(l) != 0 {
		t.Errorf("%s: Tasks: %v", what, l)
	}
	for _, front := range []bool{false, true} {
		if b, p, e := queue.Push(a, q, 1, 1, front); e != api.ErrArg || p != q || !same(b, a) {
			t.Errorf("%s: Push: %v, %v, %d", what, b, p, int(e))
		}
	}
	if b, p, task, e := queue.Pop(a, q); e != api.ErrArg || p != q || task != 0 || !same(b, a) {
		t.Errorf("%s: Pop: %v, %v, %d, %d", what, b, p, task, int(e))
	}
	for _, task := range []int{1, 10, 12, 99, -1} {
		if b, p, e := queue.Drop(a, q, task); e != api.ErrArg || p != q || !same(b, a) {
			t.Errorf("%s: Drop(%d): %v, %v, %d", what, task, b, p, int(e))
		}
	}
}

// rowOf is an arena of so many records that are all of one row, in an order that isn't that of their places, and its queue; their tasks are 0, 1, and so on.
func rowOf(n int) (api.Arena, api.Queue) {
	a := of(-1)
	var row []int
	for i := range n {
		a.Recs = append(a.Recs, api.Rec{})
		row = append(row, i)
	}
	slices.Reverse(row[n/3:])
	slices.Reverse(row[:n/2])
	for k, i := range row {
		a.Recs[i] = api.Rec{Key: 5, Task: k}
	}
	return laid(a, row)
}

// P8.1: a queue of none, of one, of all 64 records, and of each number between; arenas of more may not be.
func TestRightOfMany(t *testing.T) {
	for n := range 65 {
		a, q := rowOf(n)
		var tasks []int
		for k := range n {
			tasks = append(tasks, k)
		}
		if !queue.Right(a, q) || len(queue.Places(a, q)) != n || !slices.Equal(queue.Tasks(a, q), tasks) {
			t.Errorf("of %d: %v", n, queue.Tasks(a, q))
		}
		checkCalls(t, a, q)
		if n == 0 {
			continue
		}
		// The last one leads to any of them: none of these rows has an end.
		for i := range a.Recs {
			a.Recs[q.Tail].Next = i
			if queue.Right(a, q) || queue.Right(a, from(q.Head, i)) {
				t.Errorf("of %d, a circle from the end to %d", n, i)
			}
		}
		checkCalls(t, a, q)
	}
	for _, n := range []int{65, 66, 1000, 100000} {
		a, q := rowOf(n)
		if queue.Right(a, q) || queue.Right(a, none) {
			t.Errorf("of %d: it may not be", n)
		}
		checkRefused(t, "of too many", a, q)
		checkRefused(t, "empty, of too many", a, none)
	}
}

// P8.1: each record of a row of 64 is dropped, and found whatever its task is.
func TestDropOfMany(t *testing.T) {
	a, q := rowOf(64)
	for _, task := range append([]int{64, 65, -1, -2, math.MaxInt, math.MinInt}, queue.Tasks(a, q)...) {
		checkDrop(t, a, q, task)
		b, p, e := queue.Drop(a, q, task)
		want := slices.DeleteFunc(queue.Tasks(a, q), func(x int) bool { return x == task })
		if (e == api.OK) != (len(want) == 63) || !slices.Equal(queue.Tasks(b, p), want) {
			t.Errorf("Drop(%d): %v, %d", task, queue.Tasks(b, p), int(e))
		}
	}
}

// P8.1: all queues of all arenas of up to three records of few kinds, right or not: each call, held against the chapter's words.
func TestSmallArenas(t *testing.T) {
	rights := map[int]int{}
	look := func(recs ...api.Rec) {
		n := len(recs)
		for free := -1; free <= n; free++ {
			a := of(free, recs...)
			if !arena.Right(a) {
				for _, q := range []api.Queue{none, from(0, 0), from(0, n-1), from(n-1, 0)} {
					checkRefused(t, "an arena that may not be", a, q)
				}
				continue
			}
			for head := -2; head <= n; head++ {
				for tail := -2; tail <= n; tail++ {
					q := from(head, tail)
					checkCalls(t, a, q)
					if queue.Right(a, q) {
						rights[n]++
					}
				}
			}
		}
	}
	kinds := func(n int, tasks ...int) []api.Rec {
		var list []api.Rec
		for next := -1; next < n; next++ {
			list = append(list, freeTo(next))
			for _, task := range tasks {
				list = append(list, taskTo(task, next))
			}
		}
		return list
	}
	look()
	for _, r := range kinds(1, 1, 2) {
		look(r)
	}
	for _, r := range kinds(2, 1, 2) {
		for _, s := range kinds(2, 1, 2) {
			look(r, s)
		}
	}
	for _, r := range kinds(3, 1) {
		for _, s := range kinds(3, 1) {
			for _, u := range kinds(3, 1, 2) {
				look(r, s, u)
			}
		}
	}
	// By the chapter's words, counted by hand.
	if rights[0] != 1 || rights[1] != 7 || rights[2] != 82 || rights[3] != 399 {
		t.Error("so many of them may be:", rights)
	}
}

// P8.1: all that four records may lead to, none of them free, and five, one of them free, of which two are one task's.
func TestFourRecords(t *testing.T) {
	for code := range 5 * 5 * 5 * 5 {
		var recs []api.Rec
		for i := range 4 {
			recs = append(recs, taskTo(i%3, code%5-1))
			code /= 5
		}
		for _, a := range []api.Arena{of(-1, recs...), of(4, append(recs, empty)...)} {
			for head := -1; head < 5; head++ {
				for tail := -1; tail < 5; tail++ {
					q := from(head, tail)
					checkLooks(t, a, q)
					checkPop(t, a, q)
					checkPush(t, a, q, 0, 1, false)
					checkPush(t, a, q, 1, 0, true)
					for task := range 4 {
						checkDrop(t, a, q, task)
					}
				}
			}
		}
	}
}

// P8.1: Push to the end and to the front, of an empty queue and of one with records; the chapter's example, too.
func TestPush(t *testing.T) {
	start := of(2, taskTo(9, -1), freeTo(-1), freeTo(1))
	for _, front := range []bool{false, true} {
		a, q, e := queue.Push(start, none, 7, 1, front)
		if want := of(1, taskTo(9, -1), empty, api.Rec{Key: 7, Task: 1, Next: -1}); !same(a, want) || q != from(2, 2) || e != api.OK {
			t.Error("of an empty one:", a, q, int(e))
		}
	}
	one, q, _ := queue.Push(start, none, 7, 1, false)
	a, p, e := queue.Push(one, q, math.MaxInt, 0, false)
	if want := of(-1, taskTo(9, -1), api.Rec{Key: math.MaxInt, Task: 0, Next: -1}, api.Rec{Key: 7, Task: 1, Next: 1}); !same(a, want) || p != from(2, 1) || e != api.OK {
		t.Error("to the end:", a, p, int(e))
	}
	a, p, e = queue.Push(one, q, 0, math.MaxInt, true)
	if want := of(-1, taskTo(9, -1), api.Rec{Key: 0, Task: math.MaxInt, Next: 2}, api.Rec{Key: 7, Task: 1, Next: -1}); !same(a, want) || p != from(1, 2) || e != api.OK {
		t.Error("to the front:", a, p, int(e))
	}
	a, q = pushed(t, made(t, 3), none, false, 1, 2)
	a, q = pushed(t, a, q, true, 3)
	if got := queue.Tasks(a, q); !slices.Equal(got, []int{3, 1, 2}) || !slices.Equal(queue.Places(a, q), []int{2, 0, 1}) {
		t.Error("3 1 2:", got)
	}
	// A task may wait in a row more than once.
	a, q = pushed(t, made(t, 4), none, false, 5, 5, 5)
	if a, q = pushed(t, a, q, true, 5); !slices.Equal(queue.Tasks(a, q), []int{5, 5, 5, 5}) {
		t.Error("5 5 5 5:", a, q)
	}
}

// P8.1: Push has Take's errors, in Take's order, where the queue may be: a key or a task below 0 ahead of a full arena.
func TestPushRefused(t *testing.T) {
	some, q := pushed(t, made(t, 3), none, false, 1, 2)
	full, r := pushed(t, some, q, true, 3)
	all, s := rowOf(64)
	below := [][2]int{{-1, 0}, {0, -1}, {-1, -1}, {-2, 3}, {3, -2}, {math.MinInt, 0}, {0, math.MinInt}, {-1, math.MaxInt}}
	for _, c := range []struct {
		a    api.Arena
		q    api.Queue
		full bool
	}{{some, q, false}, {some, none, false}, {full, r, true}, {full, none, true}, {of(-1), none, true}, {all, s, true}} {
		for _, front := range []bool{false, true} {
			for _, x := range below {
				if b, p, e := queue.Push(c.a, c.q, x[0], x[1], front); e != api.ErrArg || p != c.q || !same(b, c.a) {
					t.Errorf("Push(%v, %v, %d, %d, %v) = %v, %v, %d", c.a, c.q, x[0], x[1], front, b, p, int(e))
				}
			}
			b, p, e := queue.Push(c.a, c.q, 0, 0, front)
			if c.full && (e != api.ErrFull || p != c.q || !same(b, c.a)) || !c.full && e != api.OK {
				t.Errorf("Push(%v, %v, 0, 0, %v) = %v, %v, %d", c.a, c.q, front, b, p, int(e))
			}
		}
	}
}

// P8.1: Pop of an empty queue, of one record, of several, and of one to whose first record another one leads.
func TestPop(t *testing.T) {
	a := of(3, taskTo(10, 1), taskTo(11, -1), taskTo(12, -1), empty, taskTo(14, 5), taskTo(15, -1), taskTo(16, 5))
	for _, c := range []struct {
		what string
		q    api.Queue
		want answer
	}{
		{"empty", none, answer{a, none, 0, api.ErrNone}},
		{"one", from(2, 2), answer{of(2, a.Recs[0], a.Recs[1], freeTo(3), a.Recs[3], a.Recs[4], a.Recs[5], a.Recs[6]), none, 12, api.OK}},
		{"two", from(0, 1), answer{of(0, freeTo(3), a.Recs[1], a.Recs[2], a.Recs[3], a.Recs[4], a.Recs[5], a.Recs[6]), from(1, 1), 10, api.OK}},
		{"the end of another one", from(1, 1), answer{a, from(1, 1), 0, api.ErrThere}},
		{"the end of two", from(5, 5), answer{a, from(5, 5), 0, api.ErrThere}},
		{"one of two with one end", from(4, 5), answer{of(4, a.Recs[0], a.Recs[1], a.Recs[2], a.Recs[3], freeTo(3), a.Recs[5], a.Recs[6]), from(5, 5), 14, api.OK}},
	} {
		b, q, task, e := queue.Pop(a, c.q)
		if !same(b, c.want.a) || q != c.want.q || task != c.want.task || e != c.want.e {
			t.Errorf("%s: %v, %v, %d, %d, not %v", c.what, b, q, task, int(e), c.want)
		}
	}
	// A circle elsewhere in the arena leads to none of the row.
	b := of(-1, taskTo(1, 1), taskTo(2, -1), taskTo(3, 2))
	if c, q, task, e := queue.Pop(b, from(1, 1)); e != api.ErrThere || q != from(1, 1) || task != 0 || !same(c, b) {
		t.Error(c, q, task, int(e))
	}
	if c, q, task, e := queue.Pop(b, from(0, 1)); e != api.OK || q != from(1, 1) || task != 1 || !same(c, of(0, empty, b.Recs[1], b.Recs[2])) {
		t.Error(c, q, task, int(e))
	}
}

// P8.1: Drop of the first record, of one between, of the last one, of the only one, of a task that none has, of one that several have.
func TestDrop(t *testing.T) {
	a, q := pushed(t, made(t, 6), none, false, 10, 11, 12, 11)
	a, p := pushed(t, a, none, false, 20)
	r := a.Recs
	for _, c := range []struct {
		what string
		q    api.Queue
		task int
		want answer
	}{
		{"the first", q, 10, answer{of(0, freeTo(5), r[1], r[2], r[3], r[4], r[5]), from(1, 3), 0, api.OK}},
		{"the first one of two of its own, between", q, 11, answer{of(1, taskTo(10, 2), freeTo(5), r[2], r[3], r[4], r[5]), from(0, 3), 0, api.OK}},
		{"between", q, 12, answer{of(2, r[0], taskTo(11, 3), freeTo(5), r[3], r[4], r[5]), from(0, 3), 0, api.OK}},
		{"the last", from(2, 3), 11, answer{of(3, r[0], r[1], taskTo(12, -1), freeTo(5), r[4], r[5]), from(2, 2), 0, api.OK}},
		{"the only", p, 20, answer{of(4, r[0], r[1], r[2], r[3], freeTo(5), r[5]), none, 0, api.OK}},
		{"of another queue", p, 10, answer{a, p, 0, api.ErrNone}},
		{"of another queue, too", q, 20, answer{a, q, 0, api.ErrNone}},
		{"of none", q, 13, answer{a, q, 0, api.ErrNone}},
		{"a free one's", q, -1, answer{a, q, 0, api.ErrNone}},
		{"the least", q, math.MinInt, answer{a, q, 0, api.ErrNone}},
		{"the greatest", q, math.MaxInt, answer{a, q, 0, api.ErrNone}},
		{"a key", q, 6, answer{a, q, 0, api.ErrNone}},
		{"a place", q, 0, answer{a, q, 0, api.ErrNone}},
		{"of an empty one", none, 10, answer{a, none, 0, api.ErrNone}},
		{"one that is ahead of the row", from(2, 3), 10, answer{a, from(2, 3), 0, api.ErrNone}},
		{"the first one of a row's end", from(2, 3), 12, answer{a, from(2, 3), 0, api.ErrThere}},
	} {
		b, p, e := queue.Drop(a, c.q, c.task)
		if !same(b, c.want.a) || p != c.want.q || e != c.want.e {
			t.Errorf("%s: %v, %v, %d, not %v", c.what, b, p, int(e), c.want)
		}
	}
}

// P8.1: Drop of a record to which one of no row leads is refused, at each place of the row, and the row keeps it; of its first one, not of a later one.
func TestDropOfWhereAnotherLeads(t *testing.T) {
	for n := 1; n <= 5; n++ {
		a, q := pushed(t, made(t, 6), none, false, 1, 2, 3, 4, 5)
		q.Head = 5 - n
		for i := range q.Head {
			a.Recs[i].Next = -1
		}
		a, outside, _ := arena.Take(a, 6, 9)
		for k, i := range queue.Places(a, q) {
			led, e := arena.Set(a, outside, i)
			if e != api.OK {
				t.Fatal(int(e))
			}
			for l, task := range queue.Tasks(led, q) {
				checkDrop(t, led, q, task)
				b, p, e := queue.Drop(led, q, task)
				if l == k && (e != api.ErrThere || p != q || !same(b, led)) {
					t.Errorf("Drop of where another one leads: %v, %v, %d", b, p, int(e))
				}
				if l != k && (e != api.OK || len(queue.Tasks(b, p)) != n-1 || b.Recs[outside].Next != i) {
					t.Errorf("Drop beside of where another one leads: %v, %v, %d", b, p, int(e))
				}
			}
			b, p, task, e := queue.Pop(led, q)
			if there := e == api.ErrThere; there != (k == 0) || there && (!same(b, led) || p != q || task != 0) {
				t.Errorf("Pop, where another one leads to %d: %v, %v, %d, %d", k, b, p, task, int(e))
			}
		}
	}
	// The first one of the task's is refused, though a later one could go.
	a := of(-1, taskTo(7, 1), taskTo(7, -1), taskTo(8, 0))
	if b, q, e := queue.Drop(a, from(0, 1), 7); e != api.ErrThere || q != from(0, 1) || !same(b, a) {
		t.Error(b, q, int(e))
	}
}

// P8.1: Places and Tasks answer memory of their own, each time.
func TestListsAreTheCallersOwn(t *testing.T) {
	a, q := pushed(t, made(t, 4), none, false, 7, 8, 9)
	clear(queue.Places(a, q))
	clear(queue.Tasks(a, q))
	_, _ = append(queue.Places(a, q), 5), append(queue.Tasks(a, q), 5)
	if !slices.Equal(queue.Places(a, q), []int{0, 1, 2}) || !slices.Equal(queue.Tasks(a, q), []int{7, 8, 9}) {
		t.Error(queue.Places(a, q), queue.Tasks(a, q))
	}
}

// P8.1: a call hangs on its arguments alone, and changes none of what was answered earlier.
func TestAnswersStay(t *testing.T) {
	a, q := pushed(t, made(t, 4), none, false, 1, 2)
	was := cloned(a)
	end, r, _ := queue.Push(a, q, 6, 3, false)
	front, s, _ := queue.Push(a, q, 6, 4, true)
	popped, u, _, _ := queue.Pop(a, q)
	dropped, v, _ := queue.Drop(a, q, 2)
	for _, c := range []struct {
		a    api.Arena
		q    api.Queue
		want []int
	}{{a, q, []int{1, 2}}, {end, r, []int{1, 2, 3}}, {front, s, []int{4, 1, 2}}, {popped, u, []int{2}}, {dropped, v, []int{1}}} {
		if got := queue.Tasks(c.a, c.q); !slices.Equal(got, c.want) {
			t.Errorf("%v, not %v", got, c.want)
		}
	}
	if !same(a, was) {
		t.Error(a, was)
	}
}

// emptied pops all that a queue holds, and tells who it was, in turn.
func emptied(t *testing.T, a api.Arena, q api.Queue) (api.Arena, []int) {
	t.Helper()
	var tasks []int
	for q != none {
		b, p, task, e := queue.Pop(a, q)
		if e != api.OK {
			t.Fatalf("Pop(%v, %v): %d", a, q, int(e))
		}
		a, q, tasks = b, p, append(tasks, task)
	}
	if _, p, task, e := queue.Pop(a, q); e != api.ErrNone || p != none || task != 0 {
		t.Fatalf("Pop of what was emptied: %v, %d, %d", p, task, int(e))
	}
	return a, tasks
}

// P8.2: what is pushed to the end is popped in turn, of one task up to 64; then as many are free as ahead, and each is taken again.
func TestInTurn(t *testing.T) {
	for n := range 65 {
		a, q := made(t, n), none
		for round := range 3 {
			var want []int
			for i := range n {
				task := (i*7 + round) % 40
				a, q = pushed(t, a, q, false, task)
				want = append(want, task)
			}
			if len(arena.Free(a)) != 0 {
				t.Fatalf("of %d so many are free still: %v", n, arena.Free(a))
			}
			b, got := emptied(t, a, q)
			if !slices.Equal(got, want) || len(arena.Free(b)) != n {
				t.Fatalf("%d in turn: %v, not %v; free %v", n, got, want, arena.Free(b))
			}
			a, q = b, none
		}
	}
}

// P8.2: what is pushed to the front is popped at once: both are then as they were, however many wait.
func TestAtOnce(t *testing.T) {
	for n := range 64 {
		a, q := made(t, 64), none
		for i := range n {
			a, q = pushed(t, a, q, i%3 == 0, i)
		}
		b, p := pushed(t, a, q, true, 99)
		c, r, task, e := queue.Pop(b, p)
		if e != api.OK || task != 99 || r != q || !same(c, a) {
			t.Fatalf("behind %d: %d, %v, %d", n, task, r, int(e))
		}
		// Of several that are pushed to the front the last one is popped first.
		tasks := []int{99}
		for i := range 63 - n {
			b, p = pushed(t, b, p, true, i)
			tasks = append([]int{i}, tasks...)
		}
		if _, got := emptied(t, b, p); !slices.Equal(got[:64-n], tasks) {
			t.Fatal(got)
		}
	}
}

// rows are queues of one arena, and who must wait in each.
type rows struct {
	a     api.Arena
	q     []api.Queue
	tasks [][]int
}

// check looks whether each queue has its tasks, in order, and whether each record is of just one queue, or free.
func (r rows) check(t *testing.T) {
	t.Helper()
	met := map[int]int{}
	for k, q := range r.q {
		if !queue.Right(r.a, q) || !slices.Equal(queue.Tasks(r.a, q), r.tasks[k]) {
			t.Fatalf("the row %d is %v, not %v", k, queue.Tasks(r.a, q), r.tasks[k])
		}
		for _, i := range queue.Places(r.a, q) {
			met[i]++
		}
	}
	for _, i := range arena.Free(r.a) {
		met[i]++
	}
	for i := range r.a.Recs {
		if met[i] != 1 {
			t.Fatalf("the record %d is met %d times", i, met[i])
		}
	}
}

// push pushes a task, and tells whether there was room.
func (r *rows) push(t *testing.T, k, task int, front bool) bool {
	t.Helper()
	room := len(arena.Free(r.a)) > 0
	b, q, e := queue.Push(r.a, r.q[k], 30+k, task, front)
	if !room {
		if e != api.ErrFull || q != r.q[k] || !same(b, r.a) {
			t.Fatal("Push where no record is free:", int(e))
		}
		return false
	}
	if e != api.OK {
		t.Fatal("Push:", int(e))
	}
	at := len(r.tasks[k])
	if front {
		at = 0
	}
	r.a, r.q[k], r.tasks[k] = b, q, slices.Insert(r.tasks[k], at, task)
	return true
}

// pop pops a task.
func (r *rows) pop(t *testing.T, k int) {
	t.Helper()
	b, q, task, e := queue.Pop(r.a, r.q[k])
	if len(r.tasks[k]) == 0 {
		if e != api.ErrNone || q != none || task != 0 || !same(b, r.a) {
			t.Fatal("Pop of an empty one:", q, task, int(e))
		}
		return
	}
	if e != api.OK || task != r.tasks[k][0] {
		t.Fatal("Pop:", task, int(e))
	}
	r.a, r.q[k], r.tasks[k] = b, q, r.tasks[k][1:]
}

// drop drops a task.
func (r *rows) drop(t *testing.T, k, task int) {
	t.Helper()
	b, q, e := queue.Drop(r.a, r.q[k], task)
	at := slices.Index(r.tasks[k], task)
	if at < 0 {
		if e != api.ErrNone || q != r.q[k] || !same(b, r.a) {
			t.Fatal("Drop of a task that none has:", q, int(e))
		}
		return
	}
	if e != api.OK {
		t.Fatal("Drop:", int(e))
	}
	r.a, r.q[k] = b, q
	r.tasks[k] = slices.Delete(slices.Clone(r.tasks[k]), at, at+1)
}

// P8.2: whatever is pushed, popped and dropped, in any order, in one queue of an arena and in several: the same comes of it as of lists of tasks.
func TestInAnyOrder(t *testing.T) {
	for seed, n := range []int{0, 1, 2, 3, 5, 17, 40, 64, 64} {
		x := uint32(seed)
		r := rows{a: made(t, n)}
		for range 1 + seed%4 {
			r.q, r.tasks = append(r.q, none), append(r.tasks, nil)
		}
		full := 0
		for round := range 2500 {
			k := step(&x, len(r.q))
			// Times in which more comes than goes, and the other way.
			most := 3 + round/250%2*3
			switch c := step(&x, 8); {
			case c < most && !r.push(t, k, step(&x, 20), step(&x, 3) == 0):
				full++
			case c < most:
			case c < 7:
				r.pop(t, k)
			default:
				r.drop(t, k, step(&x, 20))
			}
			r.check(t)
		}
		if full == 0 {
			t.Error("so far no arena was full, of", n)
		}
		for k, q := range r.q {
			b, tasks := emptied(t, r.a, q)
			if !slices.Equal(tasks, r.tasks[k]) {
				t.Fatalf("%v are popped, not %v", tasks, r.tasks[k])
			}
			r.a = b
		}
		if l := arena.Free(r.a); len(l) != n {
			t.Fatalf("of %d only %d are free", n, len(l))
		}
	}
}

// P8.2: what is popped and dropped of a row leaves the other ones in their order, whichever goes.
func TestDroppedInAnyOrder(t *testing.T) {
	x := uint32(4)
	for n := 1; n <= 64; n++ {
		r := rows{a: made(t, n), q: []api.Queue{none}, tasks: [][]int{nil}}
		for i := range n {
			r.push(t, 0, i, step(&x, 2) == 0)
		}
		for len(r.tasks[0]) > 0 {
			r.drop(t, 0, r.tasks[0][step(&x, len(r.tasks[0]))])
			r.check(t)
		}
		if r.q[0] != none || len(arena.Free(r.a)) != n {
			t.Fatalf("of %d: %v, %v", n, r.q[0], arena.Free(r.a))
		}
	}
}
