package notify_test

import (
	"math"
	"slices"
	"testing"

	"torpor/api"
	"torpor/notify"
)

const greatest = math.MaxUint32

// froms are tickets from which on lists are looked at: some are so near the greatest one that those behind go round, or so near 2^31 that a sign would turn.
var froms = []uint32{0, 1, 7, 1<<31 - 2, 1<<31 - 1, 1 << 31, 1<<31 + 1, greatest - 1000, greatest - 999, greatest - 998, greatest - 1, greatest}

func waiter(ticket uint32, task int) api.Waiter {
	return api.Waiter{Ticket: ticket, Task: task}
}

// listOf is a list from whose ticket Told on so many are out.
func listOf(told, out uint32, waiters ...api.Waiter) api.Notify {
	return api.Notify{Wait: told + out, Told: told, Waiters: waiters}
}

// waiting are so many tasks, from the number 100 on, each with the next ticket.
func waiting(from uint32, n int) []api.Waiter {
	var l []api.Waiter
	for i := range n {
		l = append(l, waiter(from+uint32(i), 100+i))
	}
	return l
}

func same(a, b api.Notify) bool {
	return a.Wait == b.Wait && a.Told == b.Told && slices.Equal(a.Waiters, b.Waiters)
}

func cloned(n api.Notify) api.Notify {
	n.Waiters = slices.Clone(n.Waiters)
	return n
}

// ahead: how far one comes from one ticket to another one, going up, and from the greatest one to 0.
func ahead(from, to uint32) int64 {
	if to >= from {
		return int64(to) - int64(from)
	}
	return int64(to) - int64(from) + 1<<32
}

// wantOut: is a ticket out, by the chapter's words?
func wantOut(n api.Notify, ticket uint32) bool {
	return ahead(n.Told, ticket) < ahead(n.Told, n.Wait)
}

// wantTold is what Told must answer, by the chapter's words: as a number with a sign, what is 2^31 or more is below 0.
func wantTold(n api.Notify, ticket uint32) bool {
	return ahead(n.Told, ticket) >= 1<<31
}

// tickets are those with which tasks wait, as these came.
func tickets(n api.Notify) []uint32 {
	var l []uint32
	for _, w := range n.Waiters {
		l = append(l, w.Ticket)
	}
	return l
}

// tasks are those who wait, as they came.
func tasks(n api.Notify) []int {
	var l []int
	for _, w := range n.Waiters {
		l = append(l, w.Task)
	}
	return l
}

// twice: does one of them stand twice?
func twice[T uint32 | int](l []T) bool {
	for i, x := range l {
		if slices.Contains(l[i+1:], x) {
			return true
		}
	}
	return false
}

// wantRight is what Right must answer, by the chapter's words: each of them asked by itself.
func wantRight(n api.Notify) bool {
	if ahead(n.Told, n.Wait) > 1000 || len(n.Waiters) > 12 {
		return false
	}
	for _, w := range n.Waiters {
		if w.Task < 0 || !wantOut(n, w.Ticket) {
			return false
		}
	}
	return !twice(tickets(n)) && !twice(tasks(n))
}

// answer is all that a call may answer; calls with fewer results leave the others 0.
type answer struct {
	n      api.Notify
	ticket uint32
	task   int
	tasks  []int
	e      api.Errno
}

func (a answer) same(b answer) bool {
	return same(a.n, b.n) && a.ticket == b.ticket && a.task == b.task && slices.Equal(a.tasks, b.tasks) && a.e == b.e
}

// wantAdd is what Add must answer, by the chapter's words.
func wantAdd(n api.Notify) answer {
	switch {
	case !wantRight(n):
		return answer{n: n, e: api.ErrArg}
	case ahead(n.Told, n.Wait) == 1000:
		return answer{n: n, e: api.ErrFull}
	}
	m := cloned(n)
	if m.Wait = n.Wait + 1; n.Wait == greatest {
		m.Wait = 0
	}
	return answer{n: m, ticket: n.Wait}
}

// wantPark is what Park must answer, by the chapter's words.
func wantPark(n api.Notify, ticket uint32, task int) answer {
	switch {
	case !wantRight(n) || task < 0 || !wantOut(n, ticket):
		return answer{n: n, e: api.ErrArg}
	case slices.Contains(tasks(n), task) || slices.Contains(tickets(n), ticket):
		return answer{n: n, e: api.ErrThere}
	case len(n.Waiters) == 12:
		return answer{n: n, e: api.ErrFull}
	}
	m := cloned(n)
	m.Waiters = append(m.Waiters, waiter(ticket, task))
	return answer{n: m}
}

// wantOne is what One must answer, by the chapter's words.
func wantOne(n api.Notify) answer {
	switch {
	case !wantRight(n):
		return answer{n: n, e: api.ErrArg}
	case n.Wait == n.Told:
		return answer{n: n, e: api.ErrNone}
	}
	m, who := api.Notify{Wait: n.Wait, Told: n.Told + 1}, -1
	if n.Told == greatest {
		m.Told = 0
	}
	for _, w := range n.Waiters {
		if w.Ticket == n.Told {
			who = w.Task
		} else {
			m.Waiters = append(m.Waiters, w)
		}
	}
	return answer{n: m, task: who}
}

// wantAll is what All must answer, by the chapter's words.
func wantAll(n api.Notify) answer {
	if !wantRight(n) {
		return answer{n: n, e: api.ErrArg}
	}
	return answer{n: api.Notify{Wait: n.Wait, Told: n.Wait}, tasks: tasks(n)}
}

// given is a list with spare room behind its waiters, and how both were when it was made.
type given struct {
	n   api.Notify
	was []api.Waiter
}

func give(n api.Notify) given {
	l := append(slices.Clone(n.Waiters), waiter(77, 78), waiter(n.Told, 79), waiter(0, 0))
	g := given{n, slices.Clone(l)}
	g.n.Waiters = l[:len(n.Waiters)]
	return g
}

// unchanged looks whether what was handed in is as it was.
func (g given) unchanged(t *testing.T, call string) {
	t.Helper()
	if !slices.Equal(g.n.Waiters[:len(g.was)], g.was) {
		t.Errorf("%s changes what was handed in: %v", call, g.n)
	}
}

// apart looks whether what was handed in, and an answer, are each changed with the other one.
func (g given) apart(t *testing.T, call string, got answer) {
	t.Helper()
	was := cloned(got.n)
	clear(g.n.Waiters[:len(g.was)])
	if !same(got.n, was) {
		t.Errorf("%s: the answer is changed with what was handed in", call)
	}
	copy(g.n.Waiters[:len(g.was)], g.was)
	clear(got.n.Waiters)
	// An answer's spare room is its own, too.
	_ = append(got.n.Waiters, waiter(97, 97))
	g.unchanged(t, call+"'s answer, when it is written to,")
}

// check holds an answer against the one that must be.
func (g given) check(t *testing.T, call string, got, want answer) {
	t.Helper()
	if !got.same(want) {
		t.Errorf("%s of %v: %v, not %v", call, g.n, got, want)
	}
	g.unchanged(t, call)
	g.apart(t, call, got)
}

func checkAdd(t *testing.T, n api.Notify) {
	t.Helper()
	g := give(n)
	m, ticket, e := notify.Add(g.n)
	g.check(t, "Add", answer{n: m, ticket: ticket, e: e}, wantAdd(n))
}

func checkPark(t *testing.T, n api.Notify, ticket uint32, task int) {
	t.Helper()
	g := give(n)
	m, e := notify.Park(g.n, ticket, task)
	g.check(t, "Park", answer{n: m, e: e}, wantPark(n, ticket, task))
}

func checkOne(t *testing.T, n api.Notify) {
	t.Helper()
	g := give(n)
	m, task, e := notify.One(g.n)
	g.check(t, "One", answer{n: m, task: task, e: e}, wantOne(n))
}

func checkAll(t *testing.T, n api.Notify) {
	t.Helper()
	g := give(n)
	m, l, e := notify.All(g.n)
	g.check(t, "All", answer{n: m, tasks: l, e: e}, wantAll(n))
}

func checkRight(t *testing.T, n api.Notify) {
	t.Helper()
	g := give(n)
	if got := notify.Right(g.n); got != wantRight(n) {
		t.Errorf("Right(%v) = %v", n, got)
	}
	g.unchanged(t, "Right")
}

func checkTold(t *testing.T, n api.Notify, ticket uint32) {
	t.Helper()
	g := give(n)
	if got := notify.Told(g.n, ticket); got != wantTold(n, ticket) {
		t.Errorf("Told(%v, %d) = %v", n, ticket, got)
	}
	g.unchanged(t, "Told")
}

// checkCalls holds each call of a list against the chapter's words, for tickets round those that are out, and for these tasks.
func checkCalls(t *testing.T, n api.Notify, tasks ...int) {
	t.Helper()
	checkRight(t, n)
	checkAdd(t, n)
	checkOne(t, n)
	checkAll(t, n)
	for _, from := range []uint32{n.Told, n.Wait} {
		for i := range uint32(5) {
			ticket := from - 2 + i
			checkTold(t, n, ticket)
			for _, task := range tasks {
				checkPark(t, n, ticket, task)
			}
		}
	}
}

// checkRefused looks whether each call refuses a list that may not be, and answers it as it was; so, too, where other errors apply.
func checkRefused(t *testing.T, what string, n api.Notify) {
	t.Helper()
	if notify.Right(n) {
		t.Errorf("%s: it may not be", what)
	}
	refused := answer{n: cloned(n), e: api.ErrArg}
	g := give(n)
	m, ticket, e := notify.Add(g.n)
	g.check(t, what+": Add", answer{n: m, ticket: ticket, e: e}, refused)
	m, task, e := notify.One(g.n)
	g.check(t, what+": One", answer{n: m, task: task, e: e}, refused)
	m, l, e := notify.All(g.n)
	g.check(t, what+": All", answer{n: m, tasks: l, e: e}, refused)
	for _, ticket := range []uint32{n.Told, n.Told + 1, n.Wait, n.Wait - 1} {
		for _, task := range []int{0, 1, 9, -1} {
			m, e = notify.Park(g.n, ticket, task)
			g.check(t, what+": Park", answer{n: m, e: e}, refused)
		}
	}
}

// step is the next one of numbers without much order, the same ones each time.
func step(x *uint32, n int) int {
	*x = *x*1664525 + 1013904223
	return int(*x>>16) % n
}

// P11.1: the chapter's example, and what each call answers of it.
func TestExample(t *testing.T) {
	n := api.Notify{Wait: 7, Told: 7}
	n, seven, _ := notify.Add(n)
	n, eight, _ := notify.Add(n)
	if seven != 7 || eight != 8 {
		t.Fatal("tickets:", seven, eight)
	}
	n, e := notify.Park(n, 8, 3)
	if e != api.OK || !same(n, listOf(7, 2, waiter(8, 3))) {
		t.Fatal("Park:", n, int(e))
	}
	n, task, e := notify.One(n)
	if task != -1 || e != api.OK || !same(n, listOf(8, 1, waiter(8, 3))) {
		t.Fatal("one is told:", n, task, int(e))
	}
	n, task, e = notify.One(n)
	if task != 3 || e != api.OK || !same(n, listOf(9, 0)) {
		t.Fatal("one more:", n, task, int(e))
	}
}

// P11.1: which lists may be, written out, from any ticket on; all calls of those that may not are refused, and answer the list as it was.
func TestRightWrittenOut(t *testing.T) {
	if !notify.Right(api.Notify{}) || !notify.Right(api.Notify{Waiters: []api.Waiter{}}) {
		t.Error("the zero value may be")
	}
	for _, from := range froms {
		at := func(i uint32, task int) api.Waiter { return waiter(from+i, task) }
		for _, c := range []struct {
			what string
			want bool
			n    api.Notify
		}{
			{"no ticket out", true, listOf(from, 0)},
			{"one ticket out", true, listOf(from, 1)},
			{"999 out", true, listOf(from, 999)},
			{"1000 out", true, listOf(from, 1000)},
			{"one waits with the only one", true, listOf(from, 1, at(0, 0))},
			{"the greatest task", true, listOf(from, 1, at(0, math.MaxInt))},
			{"with the first and the last one of 1000", true, listOf(from, 1000, at(999, 1), at(0, 2))},
			{"no order among tickets, nor tasks", true, listOf(from, 4, at(2, 5), at(0, 9), at(3, 0), at(1, 7))},
			{"11 wait", true, listOf(from, 1000, waiting(from, 11)...)},
			{"12 wait", true, listOf(from, 1000, waiting(from, 12)...)},
			{"12 wait, of 12", true, listOf(from, 12, waiting(from, 12)...)},

			{"1001 out", false, listOf(from, 1001)},
			{"1002 out", false, listOf(from, 1002)},
			{"2^31 out", false, listOf(from, 1<<31)},
			{"one less than none out", false, listOf(from, greatest)},
			{"1001 out, one waits", false, listOf(from, 1001, at(0, 1))},
			{"13 wait", false, listOf(from, 1000, waiting(from, 13)...)},
			{"13 wait, of 13", false, listOf(from, 13, waiting(from, 13)...)},
			{"a task below 0", false, listOf(from, 3, at(1, -1))},
			{"the least task", false, listOf(from, 3, at(1, math.MinInt))},
			{"the last one's task below 0", false, listOf(from, 3, at(1, 1), at(0, 2), at(2, -1))},
			{"one waits, no ticket out", false, listOf(from, 0, at(0, 1))},
			{"with the ticket that is given next", false, listOf(from, 3, at(3, 1))},
			{"with the one just told", false, listOf(from, 3, at(greatest, 1))},
			{"with one far away", false, listOf(from, 3, at(1<<31, 1))},
			{"the last one with one that isn't out", false, listOf(from, 3, at(1, 1), at(0, 2), at(3, 3))},
			{"a task twice", false, listOf(from, 3, at(0, 4), at(1, 4))},
			{"a task twice, one in between", false, listOf(from, 3, at(0, 4), at(1, 0), at(2, 4))},
			{"a ticket twice", false, listOf(from, 3, at(1, 4), at(1, 5))},
			{"a ticket twice, one in between", false, listOf(from, 3, at(2, 4), at(1, 0), at(2, 5))},
			{"a ticket twice, a task twice", false, listOf(from, 3, at(0, 4), at(0, 4))},
		} {
			if got := notify.Right(c.n); got != c.want {
				t.Errorf("%s, from %d on: %v", c.what, from, got)
			}
			checkCalls(t, c.n, 0, 1, 4, 99, 100, -1)
			if !c.want {
				checkRefused(t, c.what, c.n)
			}
		}
	}
}

// P11.1: how many may be out, and how many may wait, each number by itself; also of lists much longer than may be.
func TestHowMany(t *testing.T) {
	for _, from := range froms {
		for out := range uint32(1100) {
			if got := notify.Right(listOf(from, out)); got != (out <= 1000) {
				t.Errorf("from %d on %d out: %v", from, out, got)
			}
		}
		for _, wait := range []int{0, 1, 2, 10, 11, 12, 13, 14, 64, 65, 500, 1000} {
			n := listOf(from, 1000, waiting(from, wait)...)
			if got := notify.Right(n); got != (wait <= 12) {
				t.Errorf("from %d on %d wait: %v", from, wait, got)
			}
			checkCalls(t, n, 0, 100, 2000)
		}
	}
	checkRefused(t, "very many wait", listOf(5, 1000, waiting(5, 70000)...))
}

// P11.1: Told, of any list, also of one that may not be, and hanging on its ticket Told alone.
func TestTold(t *testing.T) {
	for _, told := range froms {
		for _, n := range []api.Notify{
			listOf(told, 0), listOf(told, 3), listOf(told, 1000), listOf(told, 3, waiter(told+1, 4)), {Told: told},
			listOf(told, 1001), listOf(told, greatest), listOf(told, 0, waiter(told, 1)), listOf(told, 2, waiter(told, -1), waiter(told, -1)), listOf(told, 20, waiting(told, 13)...),
		} {
			for _, c := range []struct {
				from uint32
				want bool
			}{
				{0, false}, {1, false}, {2, false}, {999, false}, {1000, false}, {1<<31 - 2, false}, {1<<31 - 1, false},
				{1 << 31, true}, {1<<31 + 1, true}, {1<<31 + 2, true}, {greatest - 999, true}, {greatest - 1, true}, {greatest, true},
			} {
				if got := notify.Told(n, told+c.from); got != c.want {
					t.Errorf("Told(%v, %d) = %v", n, told+c.from, got)
				}
				checkTold(t, n, told+c.from)
			}
			for _, ticket := range froms {
				checkTold(t, n, ticket)
			}
		}
	}
}

// P11.1: Add where none, some, 999, 1000 are out; a ticket behind the greatest one is 0; who waits still does.
func TestAdd(t *testing.T) {
	for _, from := range froms {
		for _, out := range []uint32{0, 1, 2, 998, 999, 1000} {
			for _, wait := range []int{0, 1, 12} {
				n := listOf(from, out, waiting(from, min(wait, int(out)))...)
				checkAdd(t, n)
				m, ticket, e := notify.Add(n)
				if out == 1000 {
					if e != api.ErrFull || ticket != 0 || !same(m, n) {
						t.Errorf("Add of a full list: %v, %d, %d", m, ticket, int(e))
					}
					continue
				}
				if e != api.OK || ticket != from+out || !same(m, listOf(from, out+1, n.Waiters...)) {
					t.Errorf("Add(%v) = %v, %d, %d", n, m, ticket, int(e))
				}
			}
		}
	}
	last := api.Notify{Wait: greatest, Told: greatest - 2}
	m, ticket, e := notify.Add(last)
	if ticket != greatest || m.Wait != 0 || m.Told != greatest-2 || e != api.OK {
		t.Error("the greatest ticket:", m, ticket, int(e))
	}
	if m, ticket, e = notify.Add(m); ticket != 0 || m.Wait != 1 || e != api.OK {
		t.Error("the one behind it:", m, ticket, int(e))
	}
}

// P11.1: Park of tasks below 0, of tickets that aren't out, of who waits, with tickets with which somebody waits, where 12 wait; where several errors apply, the one that is named first.
func TestPark(t *testing.T) {
	for _, from := range froms {
		three := listOf(from, 20, waiter(from+4, 7), waiter(from, 3), waiter(from+19, 5))
		twelve := listOf(from, 20, waiting(from, 12)...)
		for _, c := range []struct {
			what   string
			n      api.Notify
			ticket uint32
			task   int
			want   api.Errno
		}{
			{"a ticket between", three, 1, 0, api.OK},
			{"the last one but one", three, 18, 6, api.OK},
			{"the greatest task", three, 2, math.MaxInt, api.OK},
			{"the first one who waits", listOf(from, 1), 0, 0, api.OK},
			{"the twelfth one", listOf(from, 20, waiting(from, 11)...), 15, 1, api.OK},
			{"a task below 0", three, 1, -1, api.ErrArg},
			{"the least task", three, 1, math.MinInt, api.ErrArg},
			{"the ticket that is given next", three, 20, 0, api.ErrArg},
			{"one that is told", three, greatest, 0, api.ErrArg},
			{"one far away", three, 1 << 31, 0, api.ErrArg},
			{"no ticket is out", listOf(from, 0), 0, 0, api.ErrArg},
			{"who waits, a ticket that isn't out", three, 20, 7, api.ErrArg},
			{"a task below 0, a ticket of somebody", three, 4, -1, api.ErrArg},
			{"a task below 0, where 12 wait", twelve, 15, -1, api.ErrArg},
			{"a ticket that isn't out, where 12 wait", twelve, 20, 0, api.ErrArg},
			{"the first one who waits, another ticket", three, 1, 7, api.ErrThere},
			{"the one in between, another ticket", three, 1, 3, api.ErrThere},
			{"the last one who waits, another ticket", three, 1, 5, api.ErrThere},
			{"the first one's ticket, another task", three, 4, 0, api.ErrThere},
			{"the ticket of the one in between, another task", three, 0, 0, api.ErrThere},
			{"the last one's ticket, another task", three, 19, 0, api.ErrThere},
			{"who waits with it", three, 0, 3, api.ErrThere},
			{"who waits, the ticket of another one", three, 0, 7, api.ErrThere},
			{"who waits, where 12 wait", twelve, 15, 100, api.ErrThere},
			{"the last one who waits, where 12 wait", twelve, 15, 111, api.ErrThere},
			{"a ticket of somebody, where 12 wait", twelve, 11, 0, api.ErrThere},
			{"where 12 wait", twelve, 15, 0, api.ErrFull},
			{"where 12 wait, the first ticket that nobody has", twelve, 12, 112, api.ErrFull},
		} {
			ticket := from + c.ticket
			checkPark(t, c.n, ticket, c.task)
			m, e := notify.Park(c.n, ticket, c.task)
			want := c.n
			if c.want == api.OK {
				want = cloned(c.n)
				want.Waiters = append(want.Waiters, waiter(ticket, c.task))
			}
			if e != c.want || !same(m, want) {
				t.Errorf("%s, from %d on: %v, %d, not %d", c.what, from, m, int(e), int(c.want))
			}
		}
	}
}

// P11.1: One where no ticket is out, where nobody waits with the ticket Told, and where the first, the last, one in between, the only one does.
func TestOne(t *testing.T) {
	for _, from := range froms {
		at := func(i uint32, task int) api.Waiter { return waiter(from+i, task) }
		for _, c := range []struct {
			what string
			n    api.Notify
			task int
			left []api.Waiter
		}{
			{"nobody waits", listOf(from, 1), -1, nil},
			{"nobody waits, 1000 are out", listOf(from, 1000), -1, nil},
			{"others wait", listOf(from, 5, at(4, 0), at(1, 2)), -1, []api.Waiter{at(4, 0), at(1, 2)}},
			{"12 others wait", listOf(from, 13, waiting(from+1, 12)...), -1, waiting(from+1, 12)},
			{"the only one", listOf(from, 1, at(0, 6)), 6, nil},
			{"the only one, more are out", listOf(from, 9, at(0, 0)), 0, nil},
			{"the first one", listOf(from, 4, at(0, 8), at(3, 2), at(1, 5)), 8, []api.Waiter{at(3, 2), at(1, 5)}},
			{"one in between", listOf(from, 4, at(2, 8), at(0, 2), at(1, 5)), 2, []api.Waiter{at(2, 8), at(1, 5)}},
			{"the last one", listOf(from, 4, at(3, 8), at(2, 2), at(0, 5)), 5, []api.Waiter{at(3, 8), at(2, 2)}},
			{"one of 12", listOf(from, 12, waiting(from, 12)...), 100, waiting(from, 12)[1:]},
		} {
			checkOne(t, c.n)
			m, task, e := notify.One(c.n)
			want := api.Notify{Wait: c.n.Wait, Told: from + 1, Waiters: c.left}
			if e != api.OK || task != c.task || !same(m, want) {
				t.Errorf("%s, from %d on: %v, %d, %d", c.what, from, m, task, int(e))
			}
			if !notify.Told(m, from) || notify.Told(m, from+1) || !notify.Right(m) {
				t.Errorf("%s, from %d on: behind it %v", c.what, from, m)
			}
		}
		if m, task, e := notify.One(listOf(from, 0)); e != api.ErrNone || task != 0 || !same(m, listOf(from, 0)) {
			t.Errorf("no ticket is out, from %d on: %v, %d, %d", from, m, task, int(e))
		}
		checkOne(t, listOf(from, 0))
	}
}

// P11.1: All where no ticket is out, where nobody waits, and where several do, who are told as they came.
func TestAll(t *testing.T) {
	for _, from := range froms {
		at := func(i uint32, task int) api.Waiter { return waiter(from+i, task) }
		for _, c := range []struct {
			what string
			n    api.Notify
			want []int
		}{
			{"no ticket is out", listOf(from, 0), nil},
			{"nobody waits", listOf(from, 1), nil},
			{"nobody waits, 1000 are out", listOf(from, 1000), nil},
			{"one waits", listOf(from, 3, at(1, 0)), []int{0}},
			{"several, in no order", listOf(from, 1000, at(999, 4), at(0, 9), at(7, 0), at(3, 5)), []int{4, 9, 0, 5}},
			{"twelve", listOf(from, 12, waiting(from, 12)...), []int{100, 101, 102, 103, 104, 105, 106, 107, 108, 109, 110, 111}},
		} {
			checkAll(t, c.n)
			m, l, e := notify.All(c.n)
			if e != api.OK || !slices.Equal(l, c.want) || !same(m, listOf(c.n.Wait, 0)) {
				t.Errorf("%s, from %d on: %v, %v, %d", c.what, from, m, l, int(e))
			}
			for ticket := from; ticket != c.n.Wait; ticket++ {
				if !notify.Told(m, ticket) {
					t.Errorf("%s, from %d on: %d isn't told", c.what, from, ticket)
				}
			}
			if notify.Told(m, m.Wait) || !notify.Right(m) {
				t.Errorf("%s, from %d on: behind it %v", c.what, from, m)
			}
		}
	}
}

// P11.1: each call, of all lists of few tickets with up to three who wait, right ones and wrong ones.
func TestSmallLists(t *testing.T) {
	for _, from := range []uint32{0, 1<<31 - 1, greatest - 1, greatest} {
		for _, out := range []uint32{0, 1, 2, 3, 1000, 1001, greatest} {
			var each []api.Waiter
			for i := range uint32(4) {
				for _, task := range []int{-1, 0, 1} {
					each = append(each, waiter(from-1+i, task))
				}
			}
			checkCalls(t, listOf(from, out), -1, 0, 1)
			for _, a := range each {
				checkCalls(t, listOf(from, out, a), -1, 0, 1)
				for _, b := range each {
					checkCalls(t, listOf(from, out, a, b), 0, 2)
					for _, c := range each {
						n := listOf(from, out, a, b, c)
						checkRight(t, n)
						checkAdd(t, n)
						checkOne(t, n)
						checkAll(t, n)
					}
				}
			}
		}
	}
}

// P11.1: what is answered is the caller's own, and none of it is changed by a later call.
func TestAnswersStay(t *testing.T) {
	n := listOf(greatest, 5, waiter(1, 4), waiter(greatest, 6), waiter(0, 2))
	was := cloned(n)
	added, _, _ := notify.Add(n)
	parked, _ := notify.Park(n, 2, 9)
	// Two that are parked behind one list don't share its spare room.
	first, _ := notify.Park(parked, 3, 10)
	second, _ := notify.Park(parked, 3, 11)
	one, _, _ := notify.One(parked)
	refused, _ := notify.Park(n, 0, 9)
	_, l, _ := notify.All(n)
	_, other, _ := notify.All(n)
	clear(other)
	for _, c := range []struct{ got, want api.Notify }{
		{n, was}, {refused, was}, {added, listOf(greatest, 6, was.Waiters...)},
		{parked, listOf(greatest, 5, append(cloned(was).Waiters, waiter(2, 9))...)},
		{first, listOf(greatest, 5, append(cloned(was).Waiters, waiter(2, 9), waiter(3, 10))...)},
		{second, listOf(greatest, 5, append(cloned(was).Waiters, waiter(2, 9), waiter(3, 11))...)},
		{one, listOf(0, 4, waiter(1, 4), waiter(0, 2), waiter(2, 9))},
	} {
		if !same(c.got, c.want) {
			t.Errorf("%v, not %v", c.got, c.want)
		}
	}
	if !slices.Equal(l, []int{4, 6, 2}) {
		t.Error(l)
	}
}

// P11.2: tickets are told as they were given, one by one, each just once, from any number on; whoever waits with them is woken in that turn, in whatever order he came.
func TestInTurn(t *testing.T) {
	for _, from := range froms {
		for _, count := range []int{1, 2, 3, 11, 12} {
			n, x := listOf(from, 0), from+uint32(count)
			var out []uint32
			for range count {
				m, ticket, e := notify.Add(n)
				if e != api.OK {
					t.Fatal(int(e))
				}
				n, out = m, append(out, ticket)
			}
			order := slices.Clone(out)
			for i := range order {
				k := step(&x, count)
				order[i], order[k] = order[k], order[i]
			}
			for _, ticket := range order {
				m, e := notify.Park(n, ticket, slices.Index(out, ticket))
				if e != api.OK {
					t.Fatal(int(e))
				}
				n = m
			}
			for i := range count {
				for k, ticket := range out {
					if notify.Told(n, ticket) != (k < i) {
						t.Fatalf("from %d on, %d are told, and so is %d: %v", from, i, ticket, k >= i)
					}
				}
				m, task, e := notify.One(n)
				if e != api.OK || task != i {
					t.Fatalf("from %d on, of %d: %d, %d, not %d", from, count, task, int(e), i)
				}
				n = m
			}
			if _, _, e := notify.One(n); e != api.ErrNone || len(n.Waiters) != 0 {
				t.Fatalf("from %d on: all are told, and %v is left, %d", from, n, int(e))
			}
		}
	}
}

// P11.2: of 1000 tickets each is told in its turn, also round the greatest number, and finds room for one more each time.
func TestManyInTurn(t *testing.T) {
	for _, from := range froms {
		n := listOf(from, 0)
		for i := range uint32(1000) {
			m, ticket, e := notify.Add(n)
			if e != api.OK || ticket != from+i {
				t.Fatal("Add:", ticket, int(e))
			}
			n = m
		}
		for i := range uint32(2500) {
			if _, _, e := notify.Add(n); e != api.ErrFull {
				t.Fatal("1000 are out:", int(e))
			}
			n, _ = notify.Park(n, from+i, 3)
			m, task, e := notify.One(n)
			if e != api.OK || task != 3 || !notify.Told(m, from+i) || notify.Told(m, from+i+1) {
				t.Fatalf("%d: %v, %d, %d", from+i, m, task, int(e))
			}
			m, ticket, e := notify.Add(m)
			if e != api.OK || ticket != from+1000+i {
				t.Fatal("there is room for one more:", ticket, int(e))
			}
			n = m
		}
	}
}

// P11.2: who comes with a ticket that is told, by One or by All, doesn't wait.
func TestComesLate(t *testing.T) {
	for _, from := range froms {
		for _, out := range []uint32{1, 2, 12, 1000} {
			n := listOf(from, out)
			for i := range min(out, 12) {
				n, _, _ = notify.One(n)
				for k := range i + 1 {
					if m, e := notify.Park(n, from+k, 5); e != api.ErrArg || len(m.Waiters) != 0 || !notify.Told(n, from+k) {
						t.Fatalf("with the ticket %d, of %v: %v, %d", from+k, n, m, int(e))
					}
				}
				if m, e := notify.Park(n, from+i+1, 5); i+1 < out && (e != api.OK || len(m.Waiters) != 1) {
					t.Fatalf("with the next ticket, of %v: %v, %d", n, m, int(e))
				}
			}
			n, l, e := notify.All(listOf(from, out))
			if len(l) != 0 || e != api.OK {
				t.Fatal(l, int(e))
			}
			for k := range out {
				if m, e := notify.Park(n, from+k, 5); e != api.ErrArg || len(m.Waiters) != 0 || !notify.Told(n, from+k) {
					t.Fatalf("with the ticket %d, all are told: %v, %d", from+k, m, int(e))
				}
			}
		}
	}
}

// line is what must hold of a list: how many tickets were given, and told, since it began, and who waits with which of these, as they came. Its numbers never go round.
type line struct {
	from        uint32
	given, told int
	who         [][2]int
}

// list is the list that the line says.
func (l *line) list() api.Notify {
	n := listOf(l.from+uint32(l.told), uint32(l.given-l.told))
	for _, w := range l.who {
		n.Waiters = append(n.Waiters, waiter(l.from+uint32(w[0]), w[1]))
	}
	return n
}

// check looks whether a list is what the line says, and may be.
func (l *line) check(t *testing.T, call string, n api.Notify) {
	t.Helper()
	if !same(n, l.list()) || !notify.Right(n) {
		t.Fatalf("%s: %v, not %v", call, n, l.list())
	}
	for k := max(0, l.told-3); k < l.given+3; k++ {
		if notify.Told(n, l.from+uint32(k)) != (k < l.told) {
			t.Fatalf("%s: %d are told, and of the ticket %d it is said otherwise", call, l.told, k)
		}
	}
}

// add gives a ticket in both.
func (l *line) add(t *testing.T, n api.Notify) (api.Notify, api.Errno) {
	t.Helper()
	m, ticket, e := notify.Add(n)
	if l.given-l.told == 1000 {
		if e != api.ErrFull || ticket != 0 {
			t.Fatal("Add where 1000 are out:", ticket, int(e))
		}
		return m, e
	}
	if e != api.OK || ticket != l.from+uint32(l.given) {
		t.Fatal("Add:", ticket, int(e))
	}
	l.given++
	return m, e
}

// park parks a task in both, with the k-th ticket since the list began.
func (l *line) park(t *testing.T, n api.Notify, k, task int) (api.Notify, api.Errno) {
	t.Helper()
	want := api.OK
	switch {
	case k < l.told || k >= l.given || task < 0:
		want = api.ErrArg
	case slices.ContainsFunc(l.who, func(w [2]int) bool { return w[0] == k || w[1] == task }):
		want = api.ErrThere
	case len(l.who) == 12:
		want = api.ErrFull
	default:
		l.who = append(l.who, [2]int{k, task})
	}
	m, e := notify.Park(n, l.from+uint32(k), task)
	if e != want {
		t.Fatalf("Park(%d, %d): %d, not %d", k, task, int(e), int(want))
	}
	return m, e
}

// one tells a ticket in both.
func (l *line) one(t *testing.T, n api.Notify) (api.Notify, api.Errno) {
	t.Helper()
	m, task, e := notify.One(n)
	if l.told == l.given {
		if e != api.ErrNone || task != 0 {
			t.Fatal("One where none is out:", task, int(e))
		}
		return m, e
	}
	want := -1
	if i := slices.IndexFunc(l.who, func(w [2]int) bool { return w[0] == l.told }); i >= 0 {
		want = l.who[i][1]
		l.who = slices.Delete(l.who, i, i+1)
	}
	l.told++
	if e != api.OK || task != want {
		t.Fatalf("One: %d, %d, not %d", task, int(e), want)
	}
	return m, e
}

// all tells all tickets in both.
func (l *line) all(t *testing.T, n api.Notify) (api.Notify, api.Errno) {
	t.Helper()
	m, tasks, e := notify.All(n)
	var want []int
	for _, w := range l.who {
		want = append(want, w[1])
	}
	l.told, l.who = l.given, nil
	if e != api.OK || !slices.Equal(tasks, want) {
		t.Fatalf("All: %v, %d, not %v", tasks, int(e), want)
	}
	return m, e
}

// outcome is a call, and the number of the error that it told.
type outcome struct {
	call string
	e    api.Errno
}

// P11.1, P11.2: whatever is added, parked and told, in any order, from any number on: the same comes of it as of tickets that never go round.
func TestInAnyOrder(t *testing.T) {
	met := map[outcome]int{}
	for seed, from := range append(slices.Clone(froms), greatest-50, greatest-1500, 1<<31-1500) {
		x := uint32(seed + 1)
		l, n := line{from: from}, listOf(from, 0)
		for round := range 7500 {
			// Times in which more is given than told, and the other way.
			adds, parks := 60, 85
			if round/2500%2 == 1 {
				adds, parks = 15, 45
			}
			var o outcome
			m := n
			switch c := step(&x, 100); {
			case c < adds:
				o.call = "Add"
				m, o.e = l.add(t, n)
			case c < parks:
				o.call = "Park"
				// Tickets round those that are told next, or any that are out.
				k := max(0, l.told-2) + step(&x, 18)
				if c%4 == 0 {
					k = l.told + step(&x, l.given-l.told+2)
				}
				m, o.e = l.park(t, n, k, step(&x, 18)-1)
			case c < 99 || round%31 != 0:
				o.call = "One"
				m, o.e = l.one(t, n)
			default:
				o.call = "All"
				m, o.e = l.all(t, n)
			}
			met[o]++
			l.check(t, o.call, m)
			n = m
		}
	}
	for _, o := range []outcome{
		{"Add", api.OK}, {"Add", api.ErrFull}, {"Park", api.OK}, {"Park", api.ErrArg}, {"Park", api.ErrThere}, {"Park", api.ErrFull},
		{"One", api.OK}, {"One", api.ErrNone}, {"All", api.OK},
	} {
		if met[o] == 0 {
			t.Error("never met:", o.call, int(o.e))
		}
	}
}
