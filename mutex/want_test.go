package mutex_test

import (
	"math/big"
	"slices"
	"testing"

	"torpor/api"
	"torpor/mutex"
)

// cut is a number of any length, cut to 64 bits.
func cut(x *big.Int) int64 {
	low := new(big.Int).And(x, new(big.Int).SetUint64(1<<64-1))
	return int64(low.Uint64())
}

// more is a number more by another one, cut to 64 bits.
func more(x, by int64) int64 {
	return cut(new(big.Int).Add(big.NewInt(x), big.NewInt(by)))
}

// less is a number less by another one, cut to 64 bits.
func less(x, by int64) int64 {
	return cut(new(big.Int).Sub(big.NewInt(x), big.NewInt(by)))
}

// bit: has a number the bit k?
func bit(x int64, k int) bool {
	return big.NewInt(x).Bit(k) == 1
}

// with is a number with the bit k, or without it.
func with(x int64, k int, set bool) int64 {
	var b uint
	if set {
		b = 1
	}
	return cut(new(big.Int).SetBit(big.NewInt(x), k, b))
}

// down is a number shifted down by three bits.
func down(x int64) int64 {
	return new(big.Int).Rsh(big.NewInt(x), 3).Int64()
}

// answer is all that a step answers.
type answer struct {
	o api.Obj
	f api.Frame
	a api.Act
}

func sameObj(a, b api.Obj) bool {
	return a.Kind == b.Kind && a.W == b.W && a.Notify.Wait == b.Notify.Wait && a.Notify.Told == b.Notify.Told &&
		slices.Equal(a.Notify.Waiters, b.Notify.Waiters) && slices.Equal(a.Line, b.Line)
}

func sameAct(a, b api.Act) bool {
	return a.Done == b.Done && a.Park == b.Park && a.Hand == b.Hand && a.Give == b.Give && a.Fault == b.Fault &&
		a.Value == b.Value && slices.Equal(a.Wake, b.Wake)
}

func (x answer) same(y answer) bool {
	return sameObj(x.o, y.o) && x.f == y.f && sameAct(x.a, y.a)
}

// wantLock is what a step of locking must answer, by the chapter's words.
func wantLock(o api.Obj, f api.Frame, now, patience int64) answer {
	switch f.Phase {
	case 0:
		if o.W[0] == 0 {
			o.W[0] = 1
			return answer{o: o, a: api.Act{Done: true}}
		}
		f.Phase = 1
	case 1:
		f.Old, f.Phase = o.W[0], 2
	case 2:
		return wantCome(o, f, now)
	case 3:
		waited := less(now, f.Since)
		f.Starve = f.Starve || waited > patience
		f.Old = o.W[0]
		if bit(f.Old, 2) {
			f.Phase = 4
		} else {
			f.Awoke, f.Phase = true, 2
		}
	case 4:
		o.W[0] = less(o.W[0], 7)
		stays := f.Starve && down(f.Old) != 1
		if !stays {
			o.W[0] = less(o.W[0], 4)
		}
		return answer{o: o, a: api.Act{Done: true}}
	}
	return answer{o: o, f: f}
}

// wantCome is what a step of locking of Phase 2 must answer, by the chapter's words.
func wantCome(o api.Obj, f api.Frame, now int64) answer {
	if o.W[0] != f.Old {
		f.Phase = 1
		return answer{o: o, f: f}
	}
	w := f.Old
	if !bit(f.Old, 2) {
		w = with(w, 0, true)
	}
	if bit(f.Old, 0) || bit(f.Old, 2) {
		w = more(w, 8)
	}
	if f.Starve && bit(f.Old, 0) {
		w = with(w, 2, true)
	}
	if f.Awoke {
		w = with(w, 1, false)
	}
	o.W[0] = w
	if !bit(f.Old, 0) && !bit(f.Old, 2) {
		return answer{o: o, a: api.Act{Done: true}}
	}
	f.Front = f.Since >= 0
	if f.Since < 0 {
		f.Since = now
	}
	f.Need, f.Phase = 2, 3
	return answer{o: o, f: f}
}

// wantUnlock is what a step of unlocking must answer, by the chapter's words.
func wantUnlock(o api.Obj, f api.Frame) answer {
	switch f.Phase {
	case 0:
		if !bit(o.W[0], 0) {
			return answer{o: o, a: api.Act{Fault: api.FaultUnlock}}
		}
		o.W[0] = less(o.W[0], 1)
		switch {
		case o.W[0] == 0:
			return answer{o: o, a: api.Act{Done: true}}
		case bit(o.W[0], 2):
			f.Phase = 2
		default:
			f.Phase = 1
		}
		f.Old = o.W[0]
	case 1:
		switch {
		case down(f.Old) == 0, bit(f.Old, 0), bit(f.Old, 1), bit(f.Old, 2):
			return answer{o: o, a: api.Act{Done: true}}
		case o.W[0] != f.Old:
			f.Old = o.W[0]
		default:
			o.W[0] = with(less(f.Old, 8), 1, true)
			f.Phase = 3
		}
	case 2:
		return answer{o: o, a: api.Act{Done: true, Give: 2, Hand: true}}
	case 3:
		return answer{o: o, a: api.Act{Done: true, Give: 2}}
	}
	return answer{o: o, f: f}
}

// given is an object with spare room behind its lists, and how all of it was when it was made.
type given struct {
	o, was  api.Obj
	waiters []api.Waiter
	line    []api.Claim
}

func give(o api.Obj) given {
	waiters := append(slices.Clone(o.Notify.Waiters), api.Waiter{Ticket: 77, Task: 78}, api.Waiter{})
	line := append(slices.Clone(o.Line), api.Claim{Task: 79, N: 80}, api.Claim{})
	g := given{o: o, was: o, waiters: slices.Clone(waiters), line: slices.Clone(line)}
	g.o.Notify.Waiters, g.o.Line = waiters[:len(o.Notify.Waiters)], line[:len(o.Line)]
	g.was.Notify.Waiters, g.was.Line = slices.Clone(o.Notify.Waiters), slices.Clone(o.Line)
	return g
}

// unchanged looks whether what was handed in is as it was, its spare room, too.
func (g given) unchanged(t *testing.T, call string) {
	t.Helper()
	if !slices.Equal(g.o.Notify.Waiters[:len(g.waiters)], g.waiters) || !slices.Equal(g.o.Line[:len(g.line)], g.line) {
		t.Errorf("%s changes what was handed in: %v", call, g.o)
	}
}

// apart looks whether what was handed in, and the lists of an answer, are each changed with the other ones.
func (g given) apart(t *testing.T, call string, got api.Obj) {
	t.Helper()
	clear(g.o.Notify.Waiters[:len(g.waiters)])
	clear(g.o.Line[:len(g.line)])
	if !slices.Equal(got.Notify.Waiters, g.was.Notify.Waiters) || !slices.Equal(got.Line, g.was.Line) {
		t.Errorf("%s: the answer is changed with what was handed in", call)
	}
	copy(g.o.Notify.Waiters[:len(g.waiters)], g.waiters)
	copy(g.o.Line[:len(g.line)], g.line)
	clear(got.Notify.Waiters)
	clear(got.Line)
	// An answer's spare room is its own, too.
	_ = append(got.Notify.Waiters, api.Waiter{Ticket: 97, Task: 97})
	_ = append(got.Line, api.Claim{Task: 97, N: 97})
	g.unchanged(t, call+"'s answer, when it is written to,")
}

// check holds an answer against the one that must be.
func (g given) check(t *testing.T, call string, f api.Frame, got, want answer) {
	t.Helper()
	if !got.same(want) {
		t.Errorf("%s of %v with %+v: %v %+v %+v, not %v %+v %+v", call, g.was, f, got.o, got.f, got.a, want.o, want.f, want.a)
	}
	g.unchanged(t, call)
	g.apart(t, call, got.o)
}

// checkLock holds a step of locking against the chapter's words.
func checkLock(t *testing.T, o api.Obj, f api.Frame, now, patience int64) {
	t.Helper()
	g := give(o)
	x, h, a := mutex.Lock(g.o, f, now, patience)
	g.check(t, "Lock", f, answer{x, h, a}, wantLock(g.was, f, now, patience))
}

// checkUnlock holds a step of unlocking against the chapter's words.
func checkUnlock(t *testing.T, o api.Obj, f api.Frame) {
	t.Helper()
	g := give(o)
	x, h, a := mutex.Unlock(g.o, f)
	g.check(t, "Unlock", f, answer{x, h, a}, wantUnlock(g.was, f))
}
