package once_test

import (
	"testing"

	"torpor/api"
	"torpor/mutex"
	"torpor/once"
	"torpor/trial"
)

// comer is one who has come, and how far he is.
type comer struct {
	f api.Frame
	a api.Act
}

// goOn lets one who comes make his steps, till he goes on, or needs a semaphore.
func goOn(t *testing.T, o api.Obj, f api.Frame) (api.Obj, comer) {
	t.Helper()
	for range 100 {
		x, g, a := once.Once(o, f, 7, 20)
		if a.Done || a.Fault != api.NoFault || g.Need != 0 {
			return x, comer{g, a}
		}
		o, f = x, g
	}
	t.Fatalf("one who comes does neither go on nor wait: %v %+v", o, f)
	return o, comer{}
}

// first is the object of which one has just been told to do it.
func first(t *testing.T) api.Obj {
	t.Helper()
	o, c := goOn(t, api.Obj{Kind: api.KindOnce}, begin(api.OpOnce))
	if !trial.SameAct(c.a, api.Act{Done: true, Value: 1}) || c.f != (api.Frame{}) || o.W != [6]int64{1} {
		t.Fatal("the first one:", o, c)
	}
	return o
}

// wait lets so many come, and looks whether each waits, and so does whoever tries once more.
func wait(t *testing.T, o api.Obj, n int) (api.Obj, []comer) {
	t.Helper()
	var l []comer
	for k := range n {
		var c comer
		o, c = goOn(t, o, begin(api.OpOnce))
		if !trial.SameAct(c.a, api.Act{}) || c.f.Need != 2 || c.f.Stage != 1 || o.W != [6]int64{int64(9 + 8*k)} || once.Over(o) {
			t.Fatalf("one comes behind %d who wait: %v %+v", k, o, c)
		}
		l = append(l, c)
	}
	return o, l
}

// finish lets one who has done it tell so, and looks whether the mutex's semaphore is given, or not.
func finish(t *testing.T, o api.Obj, gives int) api.Obj {
	t.Helper()
	f, a := begin(api.OpOnceEnd), api.Act{}
	for range 100 {
		o, f, a = once.End(o, f)
		if !once.Over(o) || a.Fault != api.NoFault {
			t.Fatal("the end:", o, f, a)
		}
		if a.Done {
			break
		}
	}
	if !trial.SameAct(a, api.Act{Done: true, Give: gives}) || f != (api.Frame{}) {
		t.Fatal("at the end:", o, f, a)
	}
	return o
}

// P18.2: all others wait till it is done, however long; then each is told 0, one by one, and has nothing behind.
func TestOthersWait(t *testing.T) {
	for _, n := range []int{0, 1, 2, 5, 11} {
		o, l := wait(t, first(t), n)
		gives := 0
		if n > 0 {
			gives = 2
		}
		o = finish(t, o, gives)
		for k, c := range l {
			if mutex.Locked(o) {
				t.Fatalf("locked, and %d of %d wait: %v", n-k, n, o)
			}
			// He got what was given.
			c.f.Need = 0
			o, c = goOn(t, o, c.f)
			if gives = 2; k == n-1 {
				gives = 0
			}
			if !trial.SameAct(c.a, api.Act{Done: true, Give: gives}) || c.f != (api.Frame{}) || !once.Over(o) {
				t.Fatalf("behind %d of %d: %v %+v", k, n, o, c)
			}
		}
		if o.W != [6]int64{2: 1} {
			t.Errorf("all %d have gone on: %v", n, o)
		}
	}
}

// come lets one who comes make so many steps, of which none is the last one.
func come(t *testing.T, o api.Obj, steps int) (api.Obj, api.Frame) {
	t.Helper()
	f := begin(api.OpOnce)
	for range steps {
		x, g, a := once.Once(o, f, 7, 20)
		if !trial.SameAct(a, api.Act{}) || g.Op != api.OpOnce {
			t.Fatal("one comes:", x, g, a)
		}
		o, f = x, g
	}
	return o, f
}

// P18.2: who found that it isn't done, but was too late to lock, is told 0 where another one does it meanwhile.
func TestDoneMeanwhile(t *testing.T) {
	o, f := come(t, api.Obj{Kind: api.KindOnce}, 1)
	o, does := goOn(t, o, begin(api.OpOnce))
	if does.a.Value != 1 {
		t.Fatal("another one:", o, does)
	}
	o, c := goOn(t, finish(t, o, 0), f)
	if !trial.SameAct(c.a, api.Act{Done: true}) || c.f != (api.Frame{}) || o.W != [6]int64{2: 1} {
		t.Errorf("who was too late: %v %+v", o, c)
	}
}

// P18.1: where one who hasn't done it ends it, and so unlocks what another one has locked, that one's unlocking is a fault.
func TestEndedByAnother(t *testing.T) {
	o, f := come(t, api.Obj{Kind: api.KindOnce}, 2)
	o = finish(t, o, 0)
	x, c := goOn(t, o, f)
	if !trial.SameAct(c.a, api.Act{Fault: api.FaultUnlock}) || c.f != (api.Frame{}) || !trial.SameObj(x, o) {
		t.Errorf("unlocked by another one: %v %+v", x, c)
	}
}

// P18.1, P18.2: who ends what nobody does, or what is done already, is at fault, and changes nothing: it is to be done still, or it is done.
func TestStrayEnd(t *testing.T) {
	isFault := api.Act{Fault: api.FaultUnlock}
	for _, o := range []api.Obj{{Kind: api.KindOnce}, finish(t, first(t), 0)} {
		for range 2 {
			x, f, a := once.End(o, begin(api.OpOnceEnd))
			if !trial.SameAct(a, isFault) || f != (api.Frame{}) || !trial.SameObj(x, o) {
				t.Errorf("the end of %v: %v %+v %+v", o, x, f, a)
			}
		}
		want := uint64(1)
		if once.Over(o) {
			want = 0
		}
		if _, c := goOn(t, o, begin(api.OpOnce)); !trial.SameAct(c.a, api.Act{Done: true, Value: want}) {
			t.Errorf("one comes to %v: %+v", o, c)
		}
	}
}
