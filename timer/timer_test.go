package timer_test

import (
	"math"
	"slices"
	"testing"

	"torpor/api"
	"torpor/timer"
)

// latest is the greatest When.
const latest = math.MaxInt64

func at(when int64, task int) api.Timer {
	return api.Timer{When: when, Task: task}
}

// heapOf is timers of these Whens, whose tasks are 0, 1, 2 and so on.
func heapOf(whens ...int64) []api.Timer {
	var h []api.Timer
	for i, w := range whens {
		h = append(h, at(w, i))
	}
	return h
}

// alike are so many timers of one When, in the order of their tasks.
func alike(n int) []api.Timer {
	return heapOf(make([]int64, n)...)
}

// parentOf is the parent of a place above 0 by the chapter's words, written out for as many places as a heap may have, and one more.
func parentOf(i int) int {
	return []int{-1, 0, 0, 0, 0, 1, 1, 1, 1, 2, 2, 2, 2}[i]
}

// before: is a timer before another one, by the chapter's words?
func before(a, b api.Timer) bool {
	if a.When == b.When {
		return a.Task < b.Task
	}
	return a.When < b.When
}

// taskTwice: does a task stand twice?
func taskTwice(h []api.Timer) bool {
	for i, a := range h {
		for _, b := range h[i+1:] {
			if a.Task == b.Task {
				return true
			}
		}
	}
	return false
}

// wantRight is what Right must answer, by the chapter's words: each of them asked by itself.
func wantRight(h []api.Timer) bool {
	if len(h) > 12 {
		return false
	}
	for i, t := range h {
		if t.When < 0 || t.Task < 0 || i > 0 && before(t, h[parentOf(i)]) {
			return false
		}
	}
	return !taskTwice(h)
}

// upwards puts right upwards at a place, as the chapter says.
func upwards(h []api.Timer, i int) {
	if i > 0 && before(h[i], h[parentOf(i)]) {
		h[i], h[parentOf(i)] = h[parentOf(i)], h[i]
		upwards(h, parentOf(i))
	}
}

// downwards puts right downwards at a place, as the chapter says.
func downwards(h []api.Timer, i int) {
	best := -1
	for c := 1; c < len(h); c++ {
		if parentOf(c) == i && (best < 0 || before(h[c], h[best])) {
			best = c
		}
	}
	if best >= 0 && before(h[best], h[i]) {
		h[i], h[best] = h[best], h[i]
		downwards(h, best)
	}
}

// left is what is left of a heap where the timer at a place goes, by the chapter's words.
func left(h []api.Timer, i int) []api.Timer {
	last := len(h) - 1
	g := slices.Clone(h[:last])
	if i < last {
		g[i] = h[last]
		downwards(g, i)
		upwards(g, i)
	}
	return g
}

// taskAt: the place of a task's timer; -1, if it has none.
func taskAt(h []api.Timer, task int) int {
	for i, t := range h {
		if t.Task == task {
			return i
		}
	}
	return -1
}

// answer is all that a call may answer; calls with fewer results leave the others 0.
type answer struct {
	h     []api.Timer
	first api.Timer
	tasks []int
	e     api.Errno
}

func (a answer) same(b answer) bool {
	return slices.Equal(a.h, b.h) && a.first == b.first && slices.Equal(a.tasks, b.tasks) && a.e == b.e
}

// wantPush is what Push must answer, by the chapter's words.
func wantPush(h []api.Timer, t api.Timer) answer {
	switch {
	case !wantRight(h) || t.When < 0 || t.Task < 0:
		return answer{h: h, e: api.ErrArg}
	case taskAt(h, t.Task) >= 0:
		return answer{h: h, e: api.ErrThere}
	case len(h) == 12:
		return answer{h: h, e: api.ErrFull}
	}
	g := append(slices.Clone(h), t)
	upwards(g, len(h))
	return answer{h: g}
}

// wantPop is what Pop must answer, by the chapter's words.
func wantPop(h []api.Timer) answer {
	switch {
	case !wantRight(h):
		return answer{h: h, e: api.ErrArg}
	case len(h) == 0:
		return answer{h: h, e: api.ErrNone}
	}
	return answer{h: left(h, 0), first: h[0]}
}

// wantDrop is what Drop must answer, by the chapter's words.
func wantDrop(h []api.Timer, task int) answer {
	switch {
	case !wantRight(h):
		return answer{h: h, e: api.ErrArg}
	case taskAt(h, task) < 0:
		return answer{h: h, e: api.ErrNone}
	}
	return answer{h: left(h, taskAt(h, task))}
}

// wantDue is what Due must answer, by the chapter's words.
func wantDue(h []api.Timer, now int64) answer {
	if !wantRight(h) {
		return answer{h: h, e: api.ErrArg}
	}
	a := answer{h: h}
	for len(a.h) > 0 && a.h[0].When <= now {
		a.tasks = append(a.tasks, a.h[0].Task)
		a.h = left(a.h, 0)
	}
	return a
}

// wantSorted is what Sorted must answer, by the chapter's words: before each one stand just as many as are before it.
func wantSorted(h []api.Timer) []api.Timer {
	if !wantRight(h) {
		return nil
	}
	l := make([]api.Timer, len(h))
	for _, t := range h {
		ahead := 0
		for _, o := range h {
			if before(o, t) {
				ahead++
			}
		}
		l[ahead] = t
	}
	return l
}

// given is a heap with spare room behind its timers, and how both were when it was made.
type given struct {
	h, was []api.Timer
}

func give(h []api.Timer) given {
	l := append(slices.Clone(h), at(77, 78), at(-1, -1), at(0, 0))
	return given{l[:len(h)], slices.Clone(l)}
}

// unchanged looks whether what was handed in is as it was.
func (g given) unchanged(t *testing.T, call string) {
	t.Helper()
	if !slices.Equal(g.h[:len(g.was)], g.was) {
		t.Errorf("%s changes what was handed in: %v", call, g.h)
	}
}

// apart looks whether what was handed in, and the timers of an answer, are each changed with the other ones.
func (g given) apart(t *testing.T, call string, got []api.Timer) {
	t.Helper()
	was := slices.Clone(got)
	clear(g.h[:len(g.was)])
	if !slices.Equal(got, was) {
		t.Errorf("%s: the answer is changed with what was handed in", call)
	}
	copy(g.h[:len(g.was)], g.was)
	clear(got)
	// An answer's spare room is its own, too.
	_ = append(got, at(97, 97))
	g.unchanged(t, call+"'s answer, when it is written to,")
}

// check holds an answer against the one that must be; behind a right heap, what is answered may be, too.
func (g given) check(t *testing.T, call string, got, want answer) {
	t.Helper()
	if !got.same(want) {
		t.Errorf("%s of %v: %v, not %v", call, g.h, got, want)
	}
	if timer.Right(got.h) != wantRight(g.h) {
		t.Errorf("%s of %v: %v, that may be: %v", call, g.h, got.h, timer.Right(got.h))
	}
	g.unchanged(t, call)
	g.apart(t, call, got.h)
}

func checkRight(t *testing.T, h []api.Timer) {
	t.Helper()
	g := give(h)
	if got := timer.Right(g.h); got != wantRight(h) {
		t.Errorf("Right(%v) = %v", h, got)
	}
	g.unchanged(t, "Right")
}

func checkPush(t *testing.T, h []api.Timer, x api.Timer) {
	t.Helper()
	g := give(h)
	m, e := timer.Push(g.h, x)
	g.check(t, "Push", answer{h: m, e: e}, wantPush(h, x))
}

func checkPop(t *testing.T, h []api.Timer) {
	t.Helper()
	g := give(h)
	m, first, e := timer.Pop(g.h)
	g.check(t, "Pop", answer{h: m, first: first, e: e}, wantPop(h))
}

func checkDrop(t *testing.T, h []api.Timer, task int) {
	t.Helper()
	g := give(h)
	m, e := timer.Drop(g.h, task)
	g.check(t, "Drop", answer{h: m, e: e}, wantDrop(h, task))
}

func checkDue(t *testing.T, h []api.Timer, now int64) {
	t.Helper()
	g := give(h)
	m, tasks, e := timer.Due(g.h, now)
	g.check(t, "Due", answer{h: m, tasks: tasks, e: e}, wantDue(h, now))
}

func checkSorted(t *testing.T, h []api.Timer) {
	t.Helper()
	g := give(h)
	l := timer.Sorted(g.h)
	if !slices.Equal(l, wantSorted(h)) {
		t.Errorf("Sorted(%v) = %v", h, l)
	}
	g.unchanged(t, "Sorted")
	g.apart(t, "Sorted", l)
}

// checkCalls holds each call of a heap against the chapter's words: for what is pushed these Whens, and tasks that have a timer, and that have none.
func checkCalls(t *testing.T, h []api.Timer, whens ...int64) {
	t.Helper()
	checkRight(t, h)
	checkPop(t, h)
	checkSorted(t, h)
	tasks := []int{-1, 0, 40, math.MaxInt}
	for _, x := range h {
		tasks = append(tasks, x.Task)
		whens = append(whens, x.When)
	}
	for _, task := range tasks {
		checkDrop(t, h, task)
		for _, w := range whens {
			checkPush(t, h, at(w, task))
		}
	}
	for _, now := range append(whens, -1, 0, math.MinInt64, latest) {
		checkDue(t, h, now)
	}
}

// checkRefused looks whether each call refuses a heap that may not be, and answers it as it was; so, too, where other errors apply.
func checkRefused(t *testing.T, what string, h []api.Timer) {
	t.Helper()
	if timer.Right(h) {
		t.Errorf("%s: it may not be", what)
	}
	refused := answer{h: slices.Clone(h), e: api.ErrArg}
	g := give(h)
	m, first, e := timer.Pop(g.h)
	g.check(t, what+": Pop", answer{h: m, first: first, e: e}, refused)
	for _, task := range []int{0, 1, 900, -1, math.MinInt, math.MaxInt} {
		m, e = timer.Drop(g.h, task)
		g.check(t, what+": Drop", answer{h: m, e: e}, refused)
		for _, when := range []int64{0, 5, -1, latest} {
			m, e = timer.Push(g.h, at(when, task))
			g.check(t, what+": Push", answer{h: m, e: e}, refused)
		}
	}
	for _, now := range []int64{math.MinInt64, -1, 0, 5, latest} {
		m, tasks, e := timer.Due(g.h, now)
		g.check(t, what+": Due", answer{h: m, tasks: tasks, e: e}, refused)
	}
	if l := timer.Sorted(g.h); len(l) != 0 {
		t.Errorf("%s: Sorted = %v", what, l)
	}
	g.unchanged(t, what+": Sorted")
}

// step is the next one of numbers without much order, the same ones each time.
func step(x *uint32, n int) int {
	*x = *x*1664525 + 1013904223
	return int(*x>>16) % n
}

// orders calls f with each order of the numbers from 0 to n - 1.
func orders(n int, f func([]int)) {
	var with func(l []int)
	with = func(l []int) {
		if len(l) == n {
			f(l)
			return
		}
		for i := range n {
			if !slices.Contains(l, i) {
				with(append(slices.Clone(l), i))
			}
		}
	}
	with(nil)
}

// pushed is a heap to which these were pushed, one after the other.
func pushed(t *testing.T, l ...api.Timer) []api.Timer {
	t.Helper()
	var h []api.Timer
	for _, x := range l {
		m, e := timer.Push(h, x)
		if e != api.OK {
			t.Fatalf("Push(%v, %v): %d", h, x, int(e))
		}
		h = m
	}
	return h
}

// P12.1: the chapter's example, and what each call answers of it.
func TestExample(t *testing.T) {
	h := pushed(t, at(5, 0), at(3, 1), at(9, 2))
	if !slices.Equal(h, []api.Timer{at(3, 1), at(5, 0), at(9, 2)}) {
		t.Fatal("pushed:", h)
	}
	if l := timer.Sorted(h); !slices.Equal(l, h) {
		t.Error("sorted:", l)
	}
	m, first, e := timer.Pop(h)
	if first != at(3, 1) || e != api.OK || !slices.Equal(m, []api.Timer{at(5, 0), at(9, 2)}) {
		t.Error("popped:", m, first, int(e))
	}
	m, e = timer.Drop(h, 1)
	if e != api.OK || !slices.Equal(m, []api.Timer{at(5, 0), at(9, 2)}) {
		t.Error("dropped:", m, int(e))
	}
	m, tasks, e := timer.Due(h, 8)
	if e != api.OK || !slices.Equal(tasks, []int{1, 0}) || !slices.Equal(m, []api.Timer{at(9, 2)}) {
		t.Error("due:", m, tasks, int(e))
	}
}

// P12.1: which heaps may be, written out; all calls of those that may not are refused, and answer the heap as it was.
func TestRightWrittenOut(t *testing.T) {
	for _, c := range []struct {
		what string
		want bool
		h    []api.Timer
	}{
		{"none", true, nil},
		{"an empty list", true, []api.Timer{}},
		{"the zero value's timer", true, []api.Timer{{}}},
		{"the greatest When", true, []api.Timer{at(latest, 0)}},
		{"the greatest task", true, []api.Timer{at(0, math.MaxInt)}},
		{"two in turn", true, heapOf(1, 2)},
		{"two of the same When in turn", true, []api.Timer{at(4, 1), at(4, 2)}},
		{"two of the greatest When in turn", true, []api.Timer{at(latest, 1), at(latest, 2)}},
		{"the lesser task behind, since its When is greater", true, []api.Timer{at(4, 9), at(5, 1)}},
		{"five", true, heapOf(1, 5, 4, 3, 2)},
		{"six", true, heapOf(1, 5, 4, 3, 2, 6)},
		{"six, where the sixth one is before all of its parent's brothers", true, heapOf(1, 2, 9, 8, 7, 3)},
		{"eleven", true, heapOf(0, 1, 6, 1, 1, 2, 2, 2, 2, 7, 8)},
		{"twelve", true, heapOf(0, 1, 6, 1, 1, 2, 2, 2, 2, 7, 8, 6)},
		{"twelve of the same When", true, alike(12)},

		{"a When below 0", false, []api.Timer{at(-1, 0)}},
		{"the least When", false, []api.Timer{at(math.MinInt64, 0)}},
		{"a When below 0 on top of another one", false, heapOf(-1, 4)},
		{"a task below 0", false, []api.Timer{at(0, -1)}},
		{"the least task", false, []api.Timer{at(0, math.MinInt)}},
		{"the first one's task below 0", false, []api.Timer{at(0, -1), at(1, 2), at(1, 3)}},
		{"the last one's task below 0", false, []api.Timer{at(0, 1), at(1, 2), at(1, -1)}},
		{"a task twice", false, []api.Timer{at(1, 3), at(2, 3)}},
		{"a task twice, at the same When", false, []api.Timer{at(1, 3), at(1, 3)}},
		{"a task twice, some in between", false, []api.Timer{at(1, 3), at(2, 4), at(2, 5), at(2, 3)}},
		{"a task twice, the last two", false, []api.Timer{at(1, 3), at(2, 4), at(3, 4)}},
		{"two out of turn", false, heapOf(2, 1)},
		{"two of the same When out of turn", false, []api.Timer{at(4, 2), at(4, 1)}},
		{"two of the greatest When out of turn", false, []api.Timer{at(latest, 2), at(latest, 1)}},
		{"0 behind the greatest When", false, heapOf(latest, 0)},
		{"the fifth one before the first one", false, heapOf(2, 3, 3, 3, 1)},
		{"the sixth one before the second one, behind the first one", false, heapOf(1, 9, 2, 2, 2, 8)},
		{"the sixth one before the second one by its task", false, []api.Timer{at(1, 0), at(9, 6), at(2, 1), at(2, 2), at(2, 3), at(9, 5)}},
		{"the tenth one before the third one", false, heapOf(0, 1, 6, 1, 1, 2, 2, 2, 2, 5)},
		{"the twelfth one before the third one", false, heapOf(0, 1, 6, 1, 1, 2, 2, 2, 2, 7, 7, 5)},
		{"thirteen", false, heapOf(0, 1, 6, 1, 1, 2, 2, 2, 2, 7, 8, 6, 9)},
		{"thirteen of the same When", false, alike(13)},
	} {
		if got := timer.Right(c.h); got != c.want {
			t.Errorf("%s: %v", c.what, got)
		}
		checkCalls(t, c.h, 0, 3, latest, -1)
		if !c.want {
			checkRefused(t, c.what, c.h)
		}
	}
}

// P12.1: how many may be in a heap, each number by itself; also of lists much longer than may be.
func TestHowMany(t *testing.T) {
	for n := range 40 {
		h := alike(n)
		if got := timer.Right(h); got != (n <= 12) {
			t.Errorf("%d: %v", n, got)
		}
		m, e := timer.Push(h, at(3, 50))
		switch {
		case n < 12 && (e != api.OK || len(m) != n+1 || m[n] != at(3, 50)):
			t.Errorf("Push where %d stand: %v, %d", n, m, int(e))
		case n == 12 && (e != api.ErrFull || !slices.Equal(m, h)):
			t.Errorf("Push where 12 stand: %v, %d", m, int(e))
		case n > 12:
			checkRefused(t, "too many", h)
		}
	}
	checkRefused(t, "very many", alike(70000))
	checkRefused(t, "very many of one task", make([]api.Timer, 70000))
}

// P12.1: each place's parent, and no other place, is what its timer must not be before: by the When, and by the task where the Whens are the same.
func TestParents(t *testing.T) {
	for n := 2; n <= 12; n++ {
		for i := 1; i < n; i++ {
			// All but those above the place, and the place itself, are far behind it.
			h := heapOf(slices.Repeat([]int64{500}, n)...)
			for k := i; k > 0; k = parentOf(k) {
				h[k].When = int64(10 * k)
			}
			h[0].When = 1
			if !timer.Right(h) {
				t.Errorf("%v may be", h)
			}
			p := parentOf(i)
			h[i].When = h[p].When
			checkCalls(t, h, 7, 20)
			if !timer.Right(h) {
				t.Errorf("%v may be: the tasks are in turn", h)
			}
			h[i].Task, h[p].Task = h[p].Task, h[i].Task
			checkRefused(t, "the tasks are out of turn", h)
			h[i].Task, h[p].Task = h[p].Task, h[i].Task
			h[i].When--
			checkRefused(t, "a place is before its parent", h)
		}
	}
}

// P12.1: Push to the top, half way up, nowhere, as the first child and as the last one of a place; of a When and a task below 0, of who has a timer, where 12 stand; where several errors apply, the one that is named first.
func TestPush(t *testing.T) {
	five := heapOf(10, 20, 30, 40, 50)
	eight := heapOf(10, 20, 30, 40, 50, 60, 70, 80)
	nine := heapOf(10, 20, 30, 40, 50, 60, 70, 80, 90)
	twelve := heapOf(10, 20, 30, 40, 50, 60, 70, 80, 90, 60, 70, 80)
	for _, c := range []struct {
		what string
		h    []api.Timer
		x    api.Timer
		want []api.Timer
		e    api.Errno
	}{
		{"the first one", nil, at(0, 0), []api.Timer{at(0, 0)}, api.OK},
		{"the first one, greatest", []api.Timer{}, at(latest, math.MaxInt), []api.Timer{at(latest, math.MaxInt)}, api.OK},
		{"the second one stays", heapOf(3), at(3, 1), []api.Timer{at(3, 0), at(3, 1)}, api.OK},
		{"the second one goes to the top", heapOf(3), at(2, 1), []api.Timer{at(2, 1), at(3, 0)}, api.OK},
		{"by the task it stays", []api.Timer{at(3, 5)}, at(3, 6), []api.Timer{at(3, 5), at(3, 6)}, api.OK},
		{"by the task it goes to the top", []api.Timer{at(3, 5)}, at(3, 4), []api.Timer{at(3, 4), at(3, 5)}, api.OK},
		{"the sixth one stays", five, at(20, 5), append(slices.Clone(five), at(20, 5)), api.OK},
		{"the sixth one goes half way up", five, at(19, 5), []api.Timer{at(10, 0), at(19, 5), at(30, 2), at(40, 3), at(50, 4), at(20, 1)}, api.OK},
		{"the sixth one goes to the top", five, at(9, 5), []api.Timer{at(9, 5), at(10, 0), at(30, 2), at(40, 3), at(50, 4), at(20, 1)}, api.OK},
		{"the sixth one stays below the top, by the task", five, at(10, 5), []api.Timer{at(10, 0), at(10, 5), at(30, 2), at(40, 3), at(50, 4), at(20, 1)}, api.OK},
		{"the ninth one is the second one's last child", eight, at(15, 8), []api.Timer{at(10, 0), at(15, 8), at(30, 2), at(40, 3), at(50, 4), at(60, 5), at(70, 6), at(80, 7), at(20, 1)}, api.OK},
		{"the tenth one is the third one's first child", nine, at(25, 9), []api.Timer{at(10, 0), at(20, 1), at(25, 9), at(40, 3), at(50, 4), at(60, 5), at(70, 6), at(80, 7), at(90, 8), at(30, 2)}, api.OK},
		{"the twelfth one", twelve[:11], at(5, 30), []api.Timer{at(5, 30), at(20, 1), at(10, 0), at(40, 3), at(50, 4), at(60, 5), at(70, 6), at(80, 7), at(90, 8), at(60, 9), at(70, 10), at(30, 2)}, api.OK},

		{"a When below 0", five, at(-1, 5), five, api.ErrArg},
		{"the least When", five, at(math.MinInt64, 5), five, api.ErrArg},
		{"a task below 0", five, at(5, -1), five, api.ErrArg},
		{"the least task", five, at(5, math.MinInt), five, api.ErrArg},
		{"both below 0, to an empty heap", nil, at(-1, -1), nil, api.ErrArg},
		{"a When below 0, of who has one", five, at(-1, 4), five, api.ErrArg},
		{"a When below 0, where 12 stand", twelve, at(-1, 50), twelve, api.ErrArg},
		{"a task below 0, where 12 stand", twelve, at(1, -1), twelve, api.ErrArg},
		{"of who has the first one", five, at(99, 0), five, api.ErrThere},
		{"of who has one in between", five, at(0, 2), five, api.ErrThere},
		{"of who has the last one, the same one", five, at(50, 4), five, api.ErrThere},
		{"of who has one, where 12 stand", twelve, at(1, 11), twelve, api.ErrThere},
		{"where 12 stand", twelve, at(1, 12), twelve, api.ErrFull},
		{"where 12 stand, the greatest one", twelve, at(latest, math.MaxInt), twelve, api.ErrFull},
	} {
		checkPush(t, c.h, c.x)
		if m, e := timer.Push(c.h, c.x); e != c.e || !slices.Equal(m, c.want) {
			t.Errorf("%s: %v, %d, not %v, %d", c.what, m, int(e), c.want, int(c.e))
		}
	}
}

// P12.1: Pop of none, of the only one, of two, where the last one goes down one step, several, none, and to a place with fewer than four children.
func TestPop(t *testing.T) {
	for _, c := range []struct {
		what    string
		h, want []api.Timer
	}{
		{"the only one", heapOf(7), nil},
		{"of two", heapOf(7, 8), []api.Timer{at(8, 1)}},
		{"of three, where the last one stays on top", heapOf(7, 9, 8), []api.Timer{at(8, 2), at(9, 1)}},
		{"of three, where it goes down a step", heapOf(7, 8, 9), []api.Timer{at(8, 1), at(9, 2)}},
		{"by the tasks", []api.Timer{at(7, 1), at(7, 4), at(7, 3), at(7, 2), at(7, 5)}, []api.Timer{at(7, 2), at(7, 4), at(7, 3), at(7, 5)}},
		{"of five, the first child comes up", heapOf(1, 2, 5, 4, 3), []api.Timer{at(2, 1), at(3, 4), at(5, 2), at(4, 3)}},
		{"of six, the last child comes up, and has no child", heapOf(1, 4, 3, 4, 2, 9), []api.Timer{at(2, 4), at(4, 1), at(3, 2), at(4, 3), at(9, 5)}},
		{"of six, none goes down: the sixth one is the next one", heapOf(1, 2, 3, 4, 5, 2), []api.Timer{at(2, 1), at(2, 5), at(3, 2), at(4, 3), at(5, 4)}},
		{"of six, down one step to where no child is left", heapOf(1, 2, 5, 6, 7, 4), []api.Timer{at(2, 1), at(4, 5), at(5, 2), at(6, 3), at(7, 4)}},
		{"down two steps, to one of four", heapOf(1, 2, 9, 9, 9, 5, 4, 3, 6, 10), []api.Timer{at(2, 1), at(3, 7), at(9, 2), at(9, 3), at(9, 4), at(5, 5), at(4, 6), at(10, 9), at(6, 8)}},
		{"down one step, before all of four", heapOf(1, 2, 3, 9, 9, 5, 5, 5, 5, 4), []api.Timer{at(2, 1), at(4, 9), at(3, 2), at(9, 3), at(9, 4), at(5, 5), at(5, 6), at(5, 7), at(5, 8)}},
		{"of twelve, down two steps, to one of two", heapOf(1, 8, 2, 8, 8, 9, 9, 9, 9, 5, 4, 6), []api.Timer{at(2, 2), at(8, 1), at(4, 10), at(8, 3), at(8, 4), at(9, 5), at(9, 6), at(9, 7), at(9, 8), at(5, 9), at(6, 11)}},
		{"of twelve, down one step, before both of two", heapOf(1, 8, 2, 8, 8, 9, 9, 9, 9, 5, 4, 3), []api.Timer{at(2, 2), at(8, 1), at(3, 11), at(8, 3), at(8, 4), at(9, 5), at(9, 6), at(9, 7), at(9, 8), at(5, 9), at(4, 10)}},
		{"of eleven, down two steps, to the only one", heapOf(1, 8, 2, 8, 8, 9, 9, 9, 9, 3, 4), []api.Timer{at(2, 2), at(8, 1), at(3, 9), at(8, 3), at(8, 4), at(9, 5), at(9, 6), at(9, 7), at(9, 8), at(4, 10)}},
		{"the greatest Whens", heapOf(latest, latest, latest), []api.Timer{at(latest, 1), at(latest, 2)}},
	} {
		checkPop(t, c.h)
		m, first, e := timer.Pop(c.h)
		if e != api.OK || first != c.h[0] || !slices.Equal(m, c.want) {
			t.Errorf("%s: %v, %v, %d, not %v", c.what, m, first, int(e), c.want)
		}
	}
	for _, h := range [][]api.Timer{nil, {}} {
		checkPop(t, h)
		if m, first, e := timer.Pop(h); e != api.ErrNone || first != (api.Timer{}) || len(m) != 0 {
			t.Errorf("of none: %v, %v, %d", m, first, int(e))
		}
	}
}

// P12.1: Drop of a task that has none, of the first one, the last one, the only one, one in between, where the one that comes in its place goes down, goes up, stays.
func TestDrop(t *testing.T) {
	// Its third one's children are far behind all others, its second one's are near it.
	h := heapOf(1, 10, 2, 3, 4, 11, 13, 12, 14, 5)
	// The other way round.
	g := heapOf(1, 2, 10, 3, 4, 5, 7, 6, 8, 20, 21, 22)
	for _, c := range []struct {
		what string
		h    []api.Timer
		task int
		want []api.Timer
		e    api.Errno
	}{
		{"the only one", []api.Timer{at(4, 9)}, 9, nil, api.OK},
		{"the first one of two", []api.Timer{at(4, 9), at(5, 8)}, 9, []api.Timer{at(5, 8)}, api.OK},
		{"the last one of two", []api.Timer{at(4, 9), at(5, 8)}, 8, []api.Timer{at(4, 9)}, api.OK},
		{"the first one", h, 0, []api.Timer{at(2, 2), at(10, 1), at(5, 9), at(3, 3), at(4, 4), at(11, 5), at(13, 6), at(12, 7), at(14, 8)}, api.OK},
		{"the last one", h, 9, h[:9], api.OK},
		{"the last one but one: what comes goes up", h, 8, []api.Timer{at(1, 0), at(5, 9), at(2, 2), at(3, 3), at(4, 4), at(11, 5), at(13, 6), at(12, 7), at(10, 1)}, api.OK},
		{"where what comes goes up a step, on a first place", h, 5, []api.Timer{at(1, 0), at(5, 9), at(2, 2), at(3, 3), at(4, 4), at(10, 1), at(13, 6), at(12, 7), at(14, 8)}, api.OK},
		{"where what comes stays, above others", h, 1, []api.Timer{at(1, 0), at(5, 9), at(2, 2), at(3, 3), at(4, 4), at(11, 5), at(13, 6), at(12, 7), at(14, 8)}, api.OK},
		{"where what comes stays, above none", h, 3, []api.Timer{at(1, 0), at(10, 1), at(2, 2), at(5, 9), at(4, 4), at(11, 5), at(13, 6), at(12, 7), at(14, 8)}, api.OK},
		{"where its only child comes", h, 2, []api.Timer{at(1, 0), at(10, 1), at(5, 9), at(3, 3), at(4, 4), at(11, 5), at(13, 6), at(12, 7), at(14, 8)}, api.OK},
		{"where what comes goes down a step", g, 1, []api.Timer{at(1, 0), at(5, 5), at(10, 2), at(3, 3), at(4, 4), at(22, 11), at(7, 6), at(6, 7), at(8, 8), at(20, 9), at(21, 10)}, api.OK},
		{"where what comes goes down among two", g, 2, []api.Timer{at(1, 0), at(2, 1), at(20, 9), at(3, 3), at(4, 4), at(5, 5), at(7, 6), at(6, 7), at(8, 8), at(22, 11), at(21, 10)}, api.OK},
		{"of twelve, the first one: down two steps", g, 0, []api.Timer{at(2, 1), at(5, 5), at(10, 2), at(3, 3), at(4, 4), at(22, 11), at(7, 6), at(6, 7), at(8, 8), at(20, 9), at(21, 10)}, api.OK},
		{"where what comes stays, the last one but one", g, 10, []api.Timer{at(1, 0), at(2, 1), at(10, 2), at(3, 3), at(4, 4), at(5, 5), at(7, 6), at(6, 7), at(8, 8), at(20, 9), at(22, 11)}, api.OK},
		{"up by the task", []api.Timer{at(1, 0), at(5, 9), at(2, 2), at(2, 3), at(2, 4), at(6, 5), at(6, 6), at(6, 7), at(6, 8), at(5, 1)}, 6, []api.Timer{at(1, 0), at(5, 1), at(2, 2), at(2, 3), at(2, 4), at(6, 5), at(5, 9), at(6, 7), at(6, 8)}, api.OK},

		{"of none", nil, 0, nil, api.ErrNone},
		{"who has none", h, 10, h, api.ErrNone},
		{"a task below 0", h, -1, h, api.ErrNone},
		{"the least task", h, math.MinInt, h, api.ErrNone},
		{"the greatest task", h, math.MaxInt, h, api.ErrNone},
		{"who has none, where 12 stand", g, 12, g, api.ErrNone},
	} {
		checkDrop(t, c.h, c.task)
		if m, e := timer.Drop(c.h, c.task); e != c.e || !slices.Equal(m, c.want) {
			t.Errorf("%s: %v, %d, not %v, %d", c.what, m, int(e), c.want, int(c.e))
		}
	}
}

// P12.1: Due at a now below 0, below all, at one's When, at several, above all.
func TestDue(t *testing.T) {
	h := []api.Timer{at(4, 7), at(6, 5), at(6, 2), at(9, 3), at(8, 4), at(6, 6), at(latest, 1), at(20, 0)}
	for _, c := range []struct {
		now   int64
		tasks []int
		left  []api.Timer
	}{
		{math.MinInt64, nil, h},
		{-1, nil, h},
		{0, nil, h},
		{3, nil, h},
		{4, []int{7}, []api.Timer{at(6, 2), at(6, 5), at(20, 0), at(9, 3), at(8, 4), at(6, 6), at(latest, 1)}},
		{5, []int{7}, []api.Timer{at(6, 2), at(6, 5), at(20, 0), at(9, 3), at(8, 4), at(6, 6), at(latest, 1)}},
		{6, []int{7, 2, 5, 6}, []api.Timer{at(8, 4), at(latest, 1), at(20, 0), at(9, 3)}},
		{8, []int{7, 2, 5, 6, 4}, []api.Timer{at(9, 3), at(latest, 1), at(20, 0)}},
		{19, []int{7, 2, 5, 6, 4, 3}, []api.Timer{at(20, 0), at(latest, 1)}},
		{latest - 1, []int{7, 2, 5, 6, 4, 3, 0}, []api.Timer{at(latest, 1)}},
		{latest, []int{7, 2, 5, 6, 4, 3, 0, 1}, nil},
	} {
		checkDue(t, h, c.now)
		m, tasks, e := timer.Due(h, c.now)
		if e != api.OK || !slices.Equal(tasks, c.tasks) || !slices.Equal(m, c.left) {
			t.Errorf("at %d: %v, %v, %d, not %v, %v", c.now, m, tasks, int(e), c.left, c.tasks)
		}
	}
	for _, h := range [][]api.Timer{nil, {}} {
		for _, now := range []int64{math.MinInt64, -1, 0, latest} {
			if m, tasks, e := timer.Due(h, now); e != api.OK || len(tasks) != 0 || len(m) != 0 {
				t.Errorf("of none at %d: %v, %v, %d", now, m, tasks, int(e))
			}
		}
	}
	if m, tasks, e := timer.Due(heapOf(0), 0); e != api.OK || !slices.Equal(tasks, []int{0}) || len(m) != 0 {
		t.Errorf("a When of 0 at 0: %v, %v, %d", m, tasks, int(e))
	}
	all := []int{0, 1, 2, 3, 4, 5, 6, 7, 8, 9, 10, 11}
	if m, tasks, e := timer.Due(alike(12), 0); e != api.OK || !slices.Equal(tasks, all) || len(m) != 0 {
		t.Errorf("twelve at once: %v, %v, %d", m, tasks, int(e))
	}
}

// P12.1: Sorted of none, one, several of the same When.
func TestSorted(t *testing.T) {
	for _, c := range []struct{ h, want []api.Timer }{
		{nil, nil},
		{[]api.Timer{}, nil},
		{[]api.Timer{at(5, 3)}, []api.Timer{at(5, 3)}},
		{heapOf(1, 2), heapOf(1, 2)},
		{[]api.Timer{at(5, 1), at(5, 4), at(5, 3), at(5, 2), at(5, 9), at(5, 8)}, []api.Timer{at(5, 1), at(5, 2), at(5, 3), at(5, 4), at(5, 8), at(5, 9)}},
		{[]api.Timer{at(5, 6), at(7, 1), at(6, 2), at(5, 7), at(latest, 0), at(8, 3)}, []api.Timer{at(5, 6), at(5, 7), at(6, 2), at(7, 1), at(8, 3), at(latest, 0)}},
		{alike(12), alike(12)},
	} {
		checkSorted(t, c.h)
		if l := timer.Sorted(c.h); !slices.Equal(l, c.want) {
			t.Errorf("Sorted(%v) = %v", c.h, l)
		}
	}
}

// P12.1: each call, of all lists of up to three timers of few Whens and tasks, right ones and wrong ones.
func TestSmallLists(t *testing.T) {
	var each []api.Timer
	for _, w := range []int64{-1, 0, 1, latest} {
		for _, task := range []int{-1, 0, 1, 2} {
			each = append(each, at(w, task))
		}
	}
	for _, a := range each {
		checkCalls(t, []api.Timer{a}, -1, 0, 1, latest)
		for _, b := range each {
			checkCalls(t, []api.Timer{a, b}, 0, 1)
			for _, c := range each {
				h := []api.Timer{a, b, c}
				checkRight(t, h)
				checkPop(t, h)
				checkSorted(t, h)
				checkDue(t, h, 0)
				checkDrop(t, h, 1)
				checkPush(t, h, at(0, 3))
			}
		}
	}
}

// P12.1: each call, of all orders of up to seven timers, by the Whens, and by the tasks alone; those that are heaps, and those that are not.
func TestAllOrders(t *testing.T) {
	for n := range 8 {
		heaps := 0
		orders(n, func(l []int) {
			var byWhen, byTask []api.Timer
			for _, k := range l {
				byWhen = append(byWhen, at(int64(2*k+1), n-k))
				byTask = append(byTask, at(4, 2*k+1))
			}
			checkRight(t, byWhen)
			checkRight(t, byTask)
			if !wantRight(byWhen) {
				return
			}
			heaps++
			checkPop(t, byWhen)
			checkPop(t, byTask)
			checkSorted(t, byTask)
			checkDue(t, byWhen, int64(n))
			for k := range n + 1 {
				checkPush(t, byWhen, at(int64(2*k), 40))
				checkPush(t, byTask, at(4, 2*k))
				checkDrop(t, byWhen, k)
				checkDrop(t, byTask, 2*k+1)
			}
		})
		// As many as there are orders, by how many stand at each place and below it.
		if want := []int{1, 1, 1, 2, 6, 24, 60, 240}[n]; heaps != want {
			t.Errorf("of %d: %d heaps, not %d", n, heaps, want)
		}
	}
}

// P12.1: each call, of heaps of every length that came of many pushes, of Whens that are far apart, and of a few that are often the same.
func TestManyHeaps(t *testing.T) {
	x := uint32(5)
	for round := range 600 {
		few := []int{2, 5, 30, 1000}[round%4]
		var h []api.Timer
		for n := range 13 {
			checkCalls(t, h, int64(step(&x, few)))
			if n == 12 {
				break
			}
			h = wantPush(h, at(int64(step(&x, few)), 100*step(&x, 50)+n+1)).h
			if len(h) != n+1 {
				t.Fatal("pushed:", h)
			}
		}
	}
}

// P12.1: what is answered is the caller's own, and none of it is changed by a later call.
func TestAnswersStay(t *testing.T) {
	h := heapOf(10, 20, 30, 40, 50)
	was := slices.Clone(h)
	one, _ := timer.Push(h, at(60, 5))
	// Two that are pushed behind one heap don't share its spare room.
	first, _ := timer.Push(one, at(70, 6))
	second, _ := timer.Push(one, at(70, 7))
	popped, _, _ := timer.Pop(one)
	dropped, _ := timer.Drop(one, 5)
	// What went leaves room, which is not another answer's.
	again, _ := timer.Push(dropped, at(80, 8))
	due, tasks, _ := timer.Due(one, 20)
	_, other, _ := timer.Due(one, 30)
	clear(other)
	sorted := timer.Sorted(one)
	clear(timer.Sorted(one))
	refused, _ := timer.Push(h, at(60, 4))
	for i, c := range []struct{ got, want []api.Timer }{
		{h, was}, {refused, was}, {dropped, was},
		{one, append(slices.Clone(was), at(60, 5))},
		{first, append(slices.Clone(was), at(60, 5), at(70, 6))},
		{second, append(slices.Clone(was), at(60, 5), at(70, 7))},
		{again, append(slices.Clone(was), at(80, 8))},
		{popped, []api.Timer{at(20, 1), at(60, 5), at(30, 2), at(40, 3), at(50, 4)}},
		{due, []api.Timer{at(30, 2), at(60, 5), at(50, 4), at(40, 3)}},
		{sorted, append(slices.Clone(was), at(60, 5))},
	} {
		if !slices.Equal(c.got, c.want) {
			t.Errorf("%d: %v, not %v", i, c.got, c.want)
		}
	}
	if !slices.Equal(tasks, []int{0, 1}) {
		t.Error(tasks)
	}
}

// P12.2: in whatever order timers were pushed, they are popped in turn, each before all that stays, by the Whens, and by the tasks alone.
func TestInTurn(t *testing.T) {
	for n := range 7 {
		orders(n, func(l []int) {
			var byWhen, byTask []api.Timer
			for _, k := range l {
				byWhen = append(byWhen, at(int64(k), n-k))
				byTask = append(byTask, at(latest, k))
			}
			for _, h := range [][]api.Timer{pushed(t, byWhen...), pushed(t, byTask...)} {
				checkTurn(t, h)
			}
		})
	}
	x := uint32(11)
	for round := range 2000 {
		var l []api.Timer
		for i := range 12 {
			l = append(l, at(int64(step(&x, 1+round%40)), i))
		}
		for i := range l {
			k := step(&x, 12)
			l[i], l[k] = l[k], l[i]
		}
		checkTurn(t, pushed(t, l...))
	}
}

// checkTurn pops a heap till none is left: each is before all that stays, and what stays is all others, in a heap that may be.
func checkTurn(t *testing.T, h []api.Timer) {
	t.Helper()
	for n := len(h); n > 0; n-- {
		m, first, e := timer.Pop(h)
		if e != api.OK || len(m) != n-1 || !timer.Right(m) || slices.Contains(m, first) {
			t.Fatalf("Pop(%v) = %v, %v, %d", h, m, first, int(e))
		}
		for _, x := range m {
			if !before(first, x) || !slices.Contains(h, x) {
				t.Fatalf("of %v %v is popped, and %v stays", h, first, x)
			}
		}
		h = m
	}
	if m, first, e := timer.Pop(h); e != api.ErrNone || first != (api.Timer{}) || len(m) != 0 {
		t.Fatalf("none is left: %v, %v, %d", m, first, int(e))
	}
}

// P12.2: at every now just those are due whose When it is, or was; they are told in turn, and all others stay in a heap that may be.
func TestDueInTurn(t *testing.T) {
	x := uint32(23)
	for round := range 1500 {
		var h []api.Timer
		for i := range 1 + round%12 {
			h = wantPush(h, at(int64(step(&x, 1+round%20)), i)).h
		}
		for now := int64(-1); now <= 20; now++ {
			m, tasks, e := timer.Due(h, now)
			if e != api.OK || !timer.Right(m) || len(m)+len(tasks) != len(h) {
				t.Fatalf("Due(%v, %d) = %v, %v, %d", h, now, m, tasks, int(e))
			}
			var last api.Timer
			for i, task := range tasks {
				k := taskAt(h, task)
				if k < 0 || h[k].When > now || i > 0 && !before(last, h[k]) {
					t.Fatalf("Due(%v, %d): %v are told", h, now, tasks)
				}
				last = h[k]
			}
			for _, y := range m {
				if y.When <= now || !slices.Contains(h, y) {
					t.Fatalf("Due(%v, %d): %v stays", h, now, y)
				}
			}
		}
	}
}

// day is what must hold of a heap: its timers, in no order that would matter.
type day struct {
	l []api.Timer
}

// check looks whether a heap holds just the day's timers, in turn.
func (d *day) check(t *testing.T, call string, h []api.Timer) {
	t.Helper()
	want := slices.Clone(d.l)
	slices.SortFunc(want, func(a, b api.Timer) int {
		if before(a, b) {
			return -1
		}
		return 1
	})
	if got := timer.Sorted(h); !timer.Right(h) || !slices.Equal(got, want) {
		t.Fatalf("behind %s: %v, not %v", call, h, want)
	}
}

// push pushes in both.
func (d *day) push(t *testing.T, h []api.Timer, x api.Timer) ([]api.Timer, api.Errno) {
	t.Helper()
	want := api.OK
	switch {
	case x.When < 0 || x.Task < 0:
		want = api.ErrArg
	case taskAt(d.l, x.Task) >= 0:
		want = api.ErrThere
	case len(d.l) == 12:
		want = api.ErrFull
	default:
		d.l = append(d.l, x)
	}
	m, e := timer.Push(h, x)
	if e != want {
		t.Fatalf("Push(%v): %d, not %d", x, int(e), int(want))
	}
	return m, e
}

// drop drops a task's timer in both.
func (d *day) drop(t *testing.T, h []api.Timer, task int) ([]api.Timer, api.Errno) {
	t.Helper()
	want := api.ErrNone
	if i := taskAt(d.l, task); i >= 0 {
		d.l, want = slices.Delete(d.l, i, i+1), api.OK
	}
	m, e := timer.Drop(h, task)
	if e != want {
		t.Fatalf("Drop(%d): %d, not %d", task, int(e), int(want))
	}
	return m, e
}

// pop pops in both.
func (d *day) pop(t *testing.T, h []api.Timer) ([]api.Timer, api.Errno) {
	t.Helper()
	m, first, e := timer.Pop(h)
	if len(d.l) == 0 {
		if e != api.ErrNone || first != (api.Timer{}) {
			t.Fatal("Pop of none:", first, int(e))
		}
		return m, e
	}
	for _, x := range d.l {
		if x != first && !before(first, x) {
			t.Fatalf("Pop: %v, and %v stays", first, x)
		}
	}
	i := slices.Index(d.l, first)
	if i < 0 || e != api.OK {
		t.Fatal("Pop:", first, int(e))
	}
	d.l = slices.Delete(d.l, i, i+1)
	return m, e
}

// due tells who is due in both.
func (d *day) due(t *testing.T, h []api.Timer, now int64) ([]api.Timer, api.Errno) {
	t.Helper()
	m, tasks, e := timer.Due(h, now)
	for _, task := range tasks {
		i := taskAt(d.l, task)
		if i < 0 || d.l[i].When > now {
			t.Fatalf("at %d: %d is due", now, task)
		}
		d.l = slices.Delete(d.l, i, i+1)
	}
	for _, x := range d.l {
		if x.When <= now {
			t.Fatalf("at %d: %v is due, and isn't told", now, x)
		}
	}
	return m, e
}

// outcome is a call, and the number of the error that it told.
type outcome struct {
	call string
	e    api.Errno
}

// P12.1, P12.2: whatever is pushed, popped, dropped and due, in any order: a heap holds what was pushed and didn't go, and each call answers as the chapter says.
func TestInAnyOrder(t *testing.T) {
	met := map[outcome]int{}
	for seed := range 12 {
		x, now := uint32(seed+1), int64(0)
		var d day
		var h []api.Timer
		for round := range 4000 {
			// Times in which more is pushed than goes, and the other way.
			pushes := 70
			if round/400%2 == 1 {
				pushes = 25
			}
			o, m := outcome{}, h
			switch c := step(&x, 100); {
			case c < pushes:
				y := at(now+int64(step(&x, 1+4*seed))-1, step(&x, 18)-1)
				checkPush(t, h, y)
				o.call = "Push"
				m, o.e = d.push(t, h, y)
			case c < pushes+12:
				task := step(&x, 18) - 1
				checkDrop(t, h, task)
				o.call = "Drop"
				m, o.e = d.drop(t, h, task)
			case c < pushes+20:
				checkPop(t, h)
				o.call = "Pop"
				m, o.e = d.pop(t, h)
			default:
				now += int64(step(&x, 3))
				checkDue(t, h, now)
				o.call = "Due"
				m, o.e = d.due(t, h, now)
			}
			met[o]++
			d.check(t, o.call, m)
			h = m
		}
	}
	for _, o := range []outcome{
		{"Push", api.OK}, {"Push", api.ErrArg}, {"Push", api.ErrThere}, {"Push", api.ErrFull},
		{"Drop", api.OK}, {"Drop", api.ErrNone}, {"Pop", api.OK}, {"Pop", api.ErrNone}, {"Due", api.OK},
	} {
		if met[o] == 0 {
			t.Error("never met:", o.call, int(o.e))
		}
	}
}
