package cond_test

import (
	"math"
	"testing"

	"torpor/api"
	"torpor/cond"
	"torpor/mutex"
	"torpor/notify"
	"torpor/trial"
)

const (
	least    = math.MinInt64
	most     = math.MaxInt64
	greatest = math.MaxUint32
)

// scene is who waits for what: a condition, a mutex, a task, the clock and the patience.
type scene struct {
	c, m          api.Obj
	task          int
	now, patience int64
}

// sceneOf is task 3 at a condition with that list, and with a mutex of that state; the clock is 7, the patience 20.
func sceneOf(n api.Notify, state int64) scene {
	return scene{c: condition(n), m: api.Obj{Kind: api.KindMutex, W: words(state)}, task: 3, now: 7, patience: 20}
}

// answer is all that a step of waiting answers.
type answer struct {
	c, m api.Obj
	f    api.Frame
	a    api.Act
}

// of is what a step of waiting answers, as one.
func of(c, m api.Obj, f api.Frame, a api.Act) answer {
	return answer{c: c, m: m, f: f, a: a}
}

// cut is a number cut to 32 bits: what is left of it when all of 2^32 is taken away, or added, as often as it goes.
func cut(x int64) uint32 {
	const all = 1 << 32
	return uint32((x%all + all) % all)
}

// want is what a step of waiting must answer, by the chapter's words.
func (s scene) want(f api.Frame) answer {
	c, m := s.c, s.m
	fault := of(c, m, api.Frame{}, api.Act{Fault: api.FaultRoom})
	switch f.Stage {
	case 0:
		n, ticket, e := notify.Add(c.Notify)
		if e != api.OK {
			return fault
		}
		c.Notify = n
		f.Left, f.Stage, f.Phase = int64(ticket), 1, 0
	case 1:
		x := trial.Of(mutex.Unlock(m, f))
		if x.A.Done {
			x.F, x.A.Done = api.Frame{Op: f.Op, Stage: 2, Since: -1, Left: f.Left}, false
		}
		return of(c, x.O, x.F, x.A)
	case 2:
		next := api.Frame{Op: f.Op, Stage: 3, Since: -1}
		if notify.Told(c.Notify, cut(f.Left)) {
			return of(c, m, next, api.Act{})
		}
		n, e := notify.Park(c.Notify, cut(f.Left), s.task)
		if e != api.OK {
			return fault
		}
		c.Notify = n
		return of(c, m, next, api.Act{Park: true})
	case 3:
		x := trial.Of(mutex.Lock(m, f, s.now, s.patience))
		return of(c, x.O, x.F, x.A)
	}
	return of(c, m, f, api.Act{})
}

// await is a step of waiting.
func (s scene) await(f api.Frame) answer {
	return of(cond.Await(s.c, s.m, f, s.task, s.now, s.patience))
}

// ofCondition is a step of waiting as a step of its condition.
func (s scene) ofCondition() trial.Call {
	at := func(c api.Obj) scene {
		s.c = c
		return s
	}
	seen := func(x answer) trial.Answer { return trial.Of(x.c, x.f, x.a) }
	return trial.Call{
		Name: "Await, of its condition",
		Step: func(c api.Obj, f api.Frame) trial.Answer { return seen(at(c).await(f)) },
		Want: func(c api.Obj, f api.Frame) trial.Answer { return seen(at(c).want(f)) },
	}
}

// ofMutex is a step of waiting as a step of its mutex.
func (s scene) ofMutex() trial.Call {
	at := func(m api.Obj) scene {
		s.m = m
		return s
	}
	seen := func(x answer) trial.Answer { return trial.Of(x.m, x.f, x.a) }
	return trial.Call{
		Name: "Await, of its mutex",
		Step: func(m api.Obj, f api.Frame) trial.Answer { return seen(at(m).await(f)) },
		Want: func(m api.Obj, f api.Frame) trial.Answer { return seen(at(m).want(f)) },
	}
}

// check holds a step of waiting against the chapter's words, and looks whether what is handed in stays as it is.
func (s scene) check(t *testing.T, f api.Frame) {
	t.Helper()
	s.ofCondition().Check(t, s.c, f)
	s.ofMutex().Check(t, s.m, f)
}

// checkTold holds a step of waiting against an answer that is told.
func (s scene) checkTold(t *testing.T, f api.Frame, x answer) {
	t.Helper()
	s.ofCondition().CheckRow(t, trial.Row{O: s.c, F: f, Want: trial.Of(x.c, x.f, x.a)})
	s.ofMutex().CheckRow(t, trial.Row{O: s.m, F: f, Want: trial.Of(x.m, x.f, x.a)})
	// What is told, and what the call must answer, are to be one thing.
	w := s.want(f)
	if !trial.Of(w.c, w.f, w.a).Same(trial.Of(x.c, x.f, x.a)) || !trial.SameObj(w.m, x.m) {
		t.Errorf("Await of %+v with %+v: told is %+v, wanted %+v", s, f, x, w)
	}
}

// checkRoom looks whether a step is the fault of who finds no room, which changes nothing.
func (s scene) checkRoom(t *testing.T, f api.Frame) {
	t.Helper()
	s.checkTold(t, f, of(s.c, s.m, api.Frame{}, api.Act{Fault: api.FaultRoom}))
}

// checkNothing looks whether a step does nothing.
func (s scene) checkNothing(t *testing.T, f api.Frame) {
	t.Helper()
	s.checkTold(t, f, of(s.c, s.m, f, api.Act{}))
}

// wantSignal is what Signal must answer, by the chapter's words.
func wantSignal(c api.Obj) trial.Answer {
	n, task, e := notify.One(c.Notify)
	switch {
	case e == api.ErrNone:
		return trial.Answer{O: c, A: api.Act{Done: true}}
	case e != api.OK:
		return trial.Answer{O: c, A: api.Act{Fault: api.FaultRoom}}
	}
	c.Notify = n
	if task == -1 {
		return trial.Answer{O: c, A: api.Act{Done: true}}
	}
	return trial.Answer{O: c, A: api.Act{Done: true, Wake: []int{task}}}
}

// wantAll is what All must answer, by the chapter's words.
func wantAll(c api.Obj) trial.Answer {
	n, tasks, e := notify.All(c.Notify)
	if e != api.OK {
		return trial.Answer{O: c, A: api.Act{Fault: api.FaultRoom}}
	}
	c.Notify = n
	return trial.Answer{O: c, A: api.Act{Done: true, Wake: tasks}}
}

// telling is a call by which others are told; it has no frame.
func telling(name string, tell func(c api.Obj) (api.Obj, api.Act), want func(c api.Obj) trial.Answer) trial.Call {
	return trial.Call{
		Name: name,
		Step: func(c api.Obj, _ api.Frame) trial.Answer {
			c, a := tell(c)
			return trial.Answer{O: c, A: a}
		},
		Want: func(c api.Obj, _ api.Frame) trial.Answer { return want(c) },
	}
}

// signal is the call by which one is told.
func signal() trial.Call {
	return telling("Signal", cond.Signal, wantSignal)
}

// all is the call by which all are told.
func all() trial.Call {
	return telling("All", cond.All, wantAll)
}

// begin is the frame with which waiting begins.
func begin() api.Frame {
	return api.Frame{Op: api.OpAwait, Since: -1}
}

// frames are frames of a stage, with that Left: such as come to be, and some that hold more, or less.
func frames(stage int, left int64) []api.Frame {
	l := trial.Frames(api.OpAwait, stage, left)
	for phase := range 5 {
		l = append(l, api.Frame{Op: api.OpAwait, Stage: stage, Phase: phase, Old: 8, Since: 3, Left: left, Awoke: phase%2 == 0, Starve: phase%3 == 0})
	}
	return l
}
