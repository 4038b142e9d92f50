package trial_test

import (
	"fmt"
	"slices"
	"strings"
	"testing"

	"torpor/api"
	"torpor/trial"
)

// teller keeps what is told of what is wrong.
type teller struct {
	told []string
}

// stopped is what a teller panics with, since Fatalf doesn't come back.
type stopped struct{}

func (l *teller) Helper() {}

func (l *teller) Errorf(text string, of ...any) {
	l.told = append(l.told, fmt.Sprintf(text, of...))
}

func (l *teller) Fatalf(text string, of ...any) {
	l.Errorf(text, of...)
	panic(stopped{})
}

// toldBy is all that a trial tells.
func toldBy(what func(t trial.T)) string {
	l := &teller{}
	func() {
		defer func() {
			if x := recover(); x != nil && x != (stopped{}) {
				panic(x)
			}
		}()
		what(l)
	}()
	return strings.Join(l.told, "\n")
}

// holds looks whether a trial tells nothing, or of this.
func holds(t *testing.T, name, want string, what func(t trial.T)) {
	t.Helper()
	told := toldBy(what)
	if (told == "") != (want == "") || !strings.Contains(told, want) {
		t.Errorf("%s: it tells %q, not of %q", name, told, want)
	}
}

func object() api.Obj {
	return api.Obj{
		Kind:   api.KindCond,
		W:      [6]int64{1, 2, 3, 4, 5, 6},
		Notify: api.Notify{Wait: 7, Told: 5, Waiters: []api.Waiter{{Ticket: 6, Task: 1}, {Ticket: 5, Task: 2}}},
		Line:   []api.Claim{{Task: 3, N: 8}},
	}
}

// own is an object with lists of its own.
func own(o api.Obj) api.Obj {
	o.Notify.Waiters, o.Line = slices.Clone(o.Notify.Waiters), slices.Clone(o.Line)
	return o
}

// shared is what steps keep that keep something.
var shared []api.Claim

// P15.1, P16.1: a step that is as it must be is told nothing of; any other one is, whatever is wrong with it.
func TestCheck(t *testing.T) {
	right := func(o api.Obj, f api.Frame) trial.Answer {
		return trial.Answer{O: own(o), F: f, A: api.Act{Done: true, Wake: []int{1}}}
	}
	for _, k := range []struct {
		name, want string
		change     func(x *trial.Answer, o api.Obj)
	}{
		{"right", "", func(*trial.Answer, api.Obj) {}},
		{"kind", "not {", func(x *trial.Answer, o api.Obj) { x.O.Kind++ }},
		{"word", "not {", func(x *trial.Answer, o api.Obj) { x.O.W[5]++ }},
		{"wait", "not {", func(x *trial.Answer, o api.Obj) { x.O.Notify.Wait++ }},
		{"told", "not {", func(x *trial.Answer, o api.Obj) { x.O.Notify.Told++ }},
		{"waiter", "not {", func(x *trial.Answer, o api.Obj) { x.O.Notify.Waiters[1].Task++ }},
		{"claim", "not {", func(x *trial.Answer, o api.Obj) { x.O.Line[0].N++ }},
		{"no claim", "not {", func(x *trial.Answer, o api.Obj) { x.O.Line = nil }},
		{"frame", "not {", func(x *trial.Answer, o api.Obj) { x.F.Front = true }},
		{"done", "not {", func(x *trial.Answer, o api.Obj) { x.A.Done = false }},
		{"park", "not {", func(x *trial.Answer, o api.Obj) { x.A.Park = true }},
		{"hand", "not {", func(x *trial.Answer, o api.Obj) { x.A.Hand = true }},
		{"give", "not {", func(x *trial.Answer, o api.Obj) { x.A.Give = 3 }},
		{"fault", "not {", func(x *trial.Answer, o api.Obj) { x.A.Fault = api.FaultRoom }},
		{"value", "not {", func(x *trial.Answer, o api.Obj) { x.A.Value = 1 }},
		{"wake", "not {", func(x *trial.Answer, o api.Obj) { x.A.Wake = nil }},
		{"waiters given", "changes what is handed in", func(x *trial.Answer, o api.Obj) { o.Notify.Waiters[0].Task++ }},
		{"line given", "changes what is handed in", func(x *trial.Answer, o api.Obj) { o.Line[0].Task++ }},
		{"room of waiters", "changes what is handed in", func(x *trial.Answer, o api.Obj) { _ = append(o.Notify.Waiters, api.Waiter{}) }},
		{"room of line", "changes what is handed in", func(x *trial.Answer, o api.Obj) { _ = append(o.Line, api.Claim{}) }},
		{"shared waiters", "is changed with what was handed in", func(x *trial.Answer, o api.Obj) { x.O.Notify.Waiters = o.Notify.Waiters }},
		{"shared line", "what was handed in is changed with the answer", func(x *trial.Answer, o api.Obj) { x.O.Line = o.Line }},
	} {
		c := trial.Call{Name: k.name, Want: right, Step: func(o api.Obj, f api.Frame) trial.Answer {
			x := right(o, f)
			k.change(&x, o)
			return x
		}}
		holds(t, k.name, k.want, func(t trial.T) { c.Check(t, object(), api.Frame{Op: 3}) })
		holds(t, k.name, k.want, func(t trial.T) {
			c.CheckRow(t, trial.Row{O: object(), F: api.Frame{Op: 3}, Want: right(object(), api.Frame{Op: 3})})
		})
	}
	// Room that is shared, though no entry is.
	c := trial.Call{Name: "room", Want: right, Step: func(o api.Obj, f api.Frame) trial.Answer {
		x := right(o, f)
		x.O.Line = o.Line[:0]
		return x
	}}
	o := object()
	o.Line = nil
	holds(t, "room", "what was handed in is changed with the answer", func(t trial.T) { c.Check(t, o, api.Frame{}) })
}

// P15.1, P16.1: what is asked may not be changed.
func TestAsks(t *testing.T) {
	holds(t, "right", "", func(t trial.T) { trial.Asks(t, "it", object(), func(api.Obj) {}) })
	holds(t, "wrong", "it changes what is handed in", func(t trial.T) {
		trial.Asks(t, "it", object(), func(o api.Obj) { o.Line[0].N = 0 })
	})
	holds(t, "room", "it changes what is handed in", func(t trial.T) {
		trial.Asks(t, "it", object(), func(o api.Obj) { _ = append(o.Notify.Waiters, api.Waiter{}) })
	})
}

// P15.1, P16.1: no more may be changed than is told, with a fault nothing.
func TestLittle(t *testing.T) {
	f := api.Frame{Op: 3}
	for _, k := range []struct {
		name, want string
		words      []int
		step       trial.Answer
	}{
		{"nothing", "", nil, trial.Answer{O: object(), F: f}},
		{"a word", "", []int{2}, trial.Answer{O: with(2), F: f}},
		{"one of two", "", []int{1, 2}, trial.Answer{O: with(2), F: f, A: api.Act{Give: 2}}},
		{"another word", "changes too much", []int{1}, trial.Answer{O: with(2), F: f}},
		{"any word", "changes too much", nil, trial.Answer{O: with(0), F: f}},
		{"another kind", "changes too much", []int{0, 1, 2, 3, 4, 5}, trial.Answer{O: api.Obj{W: object().W}, F: f}},
		{"done", "", []int{2}, trial.Answer{O: with(2), A: api.Act{Done: true, Give: 2}}},
		{"done, with a frame", "leaves a frame", []int{2}, trial.Answer{O: with(2), F: f, A: api.Act{Done: true}}},
		{"fault", "", []int{2}, trial.Answer{O: object(), A: api.Act{Fault: api.FaultUnlock}}},
		{"fault, with a word", "changes too much", []int{2}, trial.Answer{O: with(2), A: api.Act{Fault: api.FaultUnlock}}},
		{"fault, with a frame", "leaves a frame", nil, trial.Answer{O: object(), F: f, A: api.Act{Fault: api.FaultUnlock}}},
		{"fault, with more", "a fault that asks for more", nil, trial.Answer{O: object(), A: api.Act{Fault: api.FaultUnlock, Give: 1}}},
	} {
		c := trial.Call{Name: k.name, Step: func(api.Obj, api.Frame) trial.Answer { return k.step }}
		holds(t, k.name, k.want, func(t trial.T) {
			if x := c.Little(t, object(), f, k.words...); !x.Same(k.step) {
				t.Errorf("another answer: %+v", x)
			}
		})
	}
}

// with is an object with another word.
func with(w int) api.Obj {
	o := object()
	o.W[w] = -1
	return o
}

// P15.1, P16.1: answers that share a list are told of.
func TestApart(t *testing.T) {
	holds(t, "none", "", func(t trial.T) { trial.Apart(t, "it", nil) })
	holds(t, "right", "", func(t trial.T) { trial.Apart(t, "it", []api.Obj{object(), object(), {}, object()}) })
	shared = object().Line
	one, other := object(), object()
	one.Line, other.Line = shared, shared
	holds(t, "wrong", "it: an answer is changed with another one", func(t trial.T) { trial.Apart(t, "it", []api.Obj{one, object(), other}) })
	one, other = object(), object()
	other.Notify.Waiters = one.Notify.Waiters[1:]
	holds(t, "a piece", "it: an answer is changed with another one", func(t trial.T) { trial.Apart(t, "it", []api.Obj{one, other}) })
}
