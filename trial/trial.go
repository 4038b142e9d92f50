// Package trial tries steps of objects: each by itself, and as tasks make them in any order. No layer: the tests of those layers that make such steps share it.
package trial

import (
	"slices"

	"torpor/api"
)

// T is by what a test tells what is wrong; Fatalf doesn't come back.
type T interface {
	Helper()
	Errorf(text string, of ...any)
	Fatalf(text string, of ...any)
}

// Answer is all that a step answers.
type Answer struct {
	O api.Obj
	F api.Frame
	A api.Act
}

// Of is what a call answers, as one.
func Of(o api.Obj, f api.Frame, a api.Act) Answer {
	return Answer{O: o, F: f, A: a}
}

// Same: the same answers?
func (x Answer) Same(y Answer) bool {
	return SameObj(x.O, y.O) && x.F == y.F && SameAct(x.A, y.A)
}

// SameObj: the same objects?
func SameObj(a, b api.Obj) bool {
	return a.Kind == b.Kind && a.W == b.W && a.Notify.Wait == b.Notify.Wait && a.Notify.Told == b.Notify.Told &&
		slices.Equal(a.Notify.Waiters, b.Notify.Waiters) && slices.Equal(a.Line, b.Line)
}

// SameAct: the same acts?
func SameAct(a, b api.Act) bool {
	return a.Done == b.Done && a.Park == b.Park && a.Hand == b.Hand && a.Give == b.Give && a.Fault == b.Fault &&
		a.Value == b.Value && slices.Equal(a.Wake, b.Wake)
}

// Call is a call that makes a step, and what it must answer.
type Call struct {
	Name       string
	Step, Want func(o api.Obj, f api.Frame) Answer
}

// Check holds a step against what it must answer, and looks whether what is handed in stays as it is, and what is answered is new memory.
func (c Call) Check(t T, o api.Obj, f api.Frame) {
	t.Helper()
	c.CheckRow(t, Row{O: o, F: f, Want: c.Want(o, f)})
}

// Row is an object and a frame, and what a step must make of them.
type Row struct {
	O    api.Obj
	F    api.Frame
	Want Answer
}

// CheckRow is Check where the answer is told.
func (c Call) CheckRow(t T, r Row) {
	t.Helper()
	g := give(r.O)
	got := c.Step(g.o, r.F)
	if !got.Same(r.Want) {
		t.Errorf("%s of %v with %+v: %+v, not %+v", c.Name, r.O, r.F, got, r.Want)
	}
	if !g.same() {
		t.Errorf("%s changes what is handed in: %v", c.Name, g.o)
	}
	g.apart(t, c.Name, got.O)
}

// Little makes a step, and looks whether it changes no more of the object than these words, and with a fault nothing; whether what is done, and a fault, leave an empty frame; and whether a fault asks for nothing else.
func (c Call) Little(t T, o api.Obj, f api.Frame, words ...int) Answer {
	t.Helper()
	x := c.Step(o, f)
	was := o
	fault := x.A.Fault != api.NoFault
	for _, w := range words {
		if !fault {
			was.W[w] = x.O.W[w]
		}
	}
	if !SameObj(x.O, was) {
		t.Errorf("%s of %v with %+v changes too much: %v", c.Name, o, f, x.O)
	}
	if (x.A.Done || fault) && x.F != (api.Frame{}) {
		t.Errorf("%s of %v with %+v leaves a frame: %+v", c.Name, o, f, x.F)
	}
	if fault && !SameAct(x.A, api.Act{Fault: x.A.Fault}) {
		t.Errorf("%s of %v with %+v: a fault that asks for more: %+v", c.Name, o, f, x.A)
	}
	return x
}

// Asks looks whether an object stays as it is where it is only asked.
func Asks(t T, name string, o api.Obj, ask func(o api.Obj)) {
	t.Helper()
	g := give(o)
	ask(g.o)
	if !g.same() {
		t.Errorf("%s changes what is handed in: %v", name, g.o)
	}
}

// given is an object with spare room behind its lists, and how these, with that, were when it was made.
type given struct {
	o       api.Obj
	waiters []api.Waiter
	line    []api.Claim
}

func give(o api.Obj) given {
	waiters := append(slices.Clone(o.Notify.Waiters), api.Waiter{Ticket: 77, Task: 78}, api.Waiter{})
	line := append(slices.Clone(o.Line), api.Claim{Task: 79, N: 80}, api.Claim{})
	o.Notify.Waiters, o.Line = waiters[:len(o.Notify.Waiters)], line[:len(o.Line)]
	return given{o: o, waiters: slices.Clone(waiters), line: slices.Clone(line)}
}

// whole is the lists of what was given, with their spare room.
func (g given) whole() ([]api.Waiter, []api.Claim) {
	return g.o.Notify.Waiters[:len(g.waiters)], g.o.Line[:len(g.line)]
}

// same: are they as they were?
func (g given) same() bool {
	waiters, line := g.whole()
	return slices.Equal(waiters, g.waiters) && slices.Equal(line, g.line)
}

// apart looks whether an answer is changed with what was given, or that with the answer.
func (g given) apart(t T, name string, got api.Obj) {
	t.Helper()
	// Not by the program's own copying: that is tried here.
	was := got
	was.Notify.Waiters, was.Line = slices.Clone(got.Notify.Waiters), slices.Clone(got.Line)
	waiters, line := g.whole()
	clear(waiters)
	clear(line)
	if !SameObj(got, was) {
		t.Errorf("%s: the answer is changed with what was handed in", name)
	}
	copy(waiters, g.waiters)
	copy(line, g.line)
	spoil(got)
	if !g.same() {
		t.Errorf("%s: what was handed in is changed with the answer", name)
	}
}

// spoil writes over the lists of an object, and their spare room.
func spoil(o api.Obj) {
	waiters, line := o.Notify.Waiters, o.Line
	waiters, line = waiters[:cap(waiters)], line[:cap(line)]
	for i := range waiters {
		waiters[i] = api.Waiter{Ticket: 97, Task: 97}
	}
	for i := range line {
		line[i] = api.Claim{Task: 97, N: 97}
	}
}

// Apart looks whether, of what was answered by call after call, any is changed with another one.
func Apart(t T, name string, got []api.Obj) {
	t.Helper()
	for i, o := range got {
		rest := slices.Clone(got[i+1:])
		for k, r := range rest {
			rest[k].Notify.Waiters, rest[k].Line = slices.Clone(r.Notify.Waiters), slices.Clone(r.Line)
		}
		spoil(o)
		if !slices.EqualFunc(rest, got[i+1:], SameObj) {
			t.Errorf("%s: an answer is changed with another one", name)
		}
	}
}
