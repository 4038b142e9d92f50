package group_test

import (
	"testing"

	"torpor/api"
	"torpor/group"
	"torpor/trial"
)

// count counts by so much, to its end, and tells what came of it, how often the semaphore was given, and by how many steps.
func count(t *testing.T, o api.Obj, by int64) (api.Obj, api.Act, int, int) {
	t.Helper()
	f, a, gives := begin(api.OpCount), api.Act{}, 0
	for steps := 1; steps < 5000; steps++ {
		o, f, a = group.Count(o, f, by)
		if a.Give == 3 {
			gives++
		}
		if a.Done || a.Fault != api.NoFault {
			return o, a, gives, steps
		}
	}
	t.Fatalf("counting by %d comes to no end: %v %+v", by, o, f)
	return o, a, gives, 0
}

// come lets so many come to wait, and looks whether they do.
func come(t *testing.T, o api.Obj, n int) api.Obj {
	t.Helper()
	for range n {
		was := o.W[1]
		x, f, a := group.Wait(o, begin(api.OpWait))
		if a.Done || f.Need != 3 || x.W[1] != was+1 {
			t.Fatalf("one comes to wait at %v: %v %+v %+v", o, x, f, a)
		}
		o = x
	}
	return o
}

// P17.2: what was counted, one by one, adds up to the counter; what would bring it below 0, or above MaxCount, is a fault, and changes nothing.
func TestSum(t *testing.T) {
	bys := []int64{1, -1, 2, -3, 5, -4, 12, -20, Max / 2, -Max / 2, Max, -Max, Max - 1, 1 - Max, 0, Max + 1, -Max - 1, least, most}
	counts, faults, zeros := 0, 0, 0
	for _, o := range trial.Objects(api.KindGroup, words(0, 0)) {
		sum, seed := int64(0), uint64(12)
		for range 5000 {
			seed = seed*6364136223846793005 + 1442695040888963407
			by := bys[seed>>33%uint64(len(bys))]
			may := within(by, -Max, Max) && within(sum+by, 0, Max)
			x, a, gives, steps := count(t, o, by)
			if may {
				sum += by
				counts++
			} else {
				faults++
			}
			was := o
			was.W[0] = sum
			if a.Done != may || (a.Fault == api.FaultCount) == may || !trial.SameObj(x, was) || gives != 0 || steps != 1 {
				t.Fatalf("%d, and %d: %v %+v", sum, by, x, a)
			}
			if sum == 0 {
				zeros++
			}
			o = x
		}
	}
	if counts == 0 || faults == 0 || zeros == 0 {
		t.Error("never met:", counts, faults, zeros)
	}
}

// P17.2: the counter may go up, and down, by ones, as far as MaxCount, and down to 0, but no further.
func TestUpAndDown(t *testing.T) {
	for _, first := range []int64{0, 1, Max - 20, Max - 1} {
		o := api.Obj{Kind: api.KindGroup}
		o.W[0] = first
		sum := first
		for _, by := range []int64{1, -1} {
			for range 25 {
				may := within(sum+by, 0, Max)
				if may {
					sum += by
				}
				var a api.Act
				if o, a, _, _ = count(t, o, by); o.W != [6]int64{sum} || a.Done != may || (a.Fault == api.FaultCount) == may {
					t.Fatalf("from %d by %d: %v %+v", first, by, o, a)
				}
			}
		}
	}
}

// P17.2: when the counter comes to 0 all who wait are let go, each once, by as many steps; before that nobody is, and afterwards nobody.
func TestAllAtZero(t *testing.T) {
	for _, n := range []int{0, 1, 2, 3, 12, 1000} {
		for _, first := range []int64{1, 2, 5, Max} {
			o, _, _, _ := count(t, api.Obj{Kind: api.KindGroup}, first)
			o = come(t, o, n)
			if first > 1 {
				x, a, gives, steps := count(t, o, 1-first)
				if !trial.SameAct(a, isDone) || gives != 0 || steps != 1 || x.W != [6]int64{1, int64(n)} {
					t.Fatalf("one less than %d: %v %+v, %d given", first, x, a, gives)
				}
				o = x
			}
			x, a, gives, steps := count(t, o, -1)
			if gives != n || steps != n+1 || !a.Done || x.W != [6]int64{} {
				t.Fatalf("%d wait: %d are let go by %d steps: %v %+v", n, gives, steps, x, a)
			}
			// Nobody waits any more.
			for _, by := range []int64{0, 1, -1, 0} {
				y, a, gives, steps := count(t, x, by)
				if !trial.SameAct(a, isDone) || gives != 0 || steps != 1 {
					t.Fatalf("once more by %d: %v %+v, %d given", by, y, a, gives)
				}
				x = y
			}
			_, f, a := group.Wait(x, begin(api.OpWait))
			if !trial.SameAct(a, isDone) || f != (api.Frame{}) {
				t.Fatalf("waiting at 0: %+v %+v", f, a)
			}
		}
	}
}

// P17.2: what can't be counted lets nobody go, and who waits does so still.
func TestFaultLetsNobodyGo(t *testing.T) {
	o, _, _, _ := count(t, api.Obj{Kind: api.KindGroup}, 3)
	o = come(t, o, 2)
	for _, by := range []int64{-4, -5, -Max, Max, Max - 2, Max + 1, -Max - 1, least, most} {
		x, a, gives, steps := count(t, o, by)
		if !trial.SameAct(a, isFault) || gives != 0 || steps != 1 || !trial.SameObj(x, o) {
			t.Errorf("by %d: %v %+v, %d given", by, x, a, gives)
		}
	}
	if x, _, gives, steps := count(t, o, -3); gives != 2 || steps != 3 || x.W != [6]int64{} {
		t.Errorf("at 0: %v, %d given by %d steps", x, gives, steps)
	}
}

// P17.2: who comes to wait while others are let go isn't among them: at 0 it needn't wait, and else it is let go when the counter comes to 0 once more.
func TestMeanwhile(t *testing.T) {
	for _, n := range []int{1, 2, 5} {
		for late := range 4 {
			o, _, _, _ := count(t, api.Obj{Kind: api.KindGroup}, 1)
			o = come(t, o, n)
			o, f, a := group.Count(o, begin(api.OpCount), -1)
			if a.Done || f.Left != int64(n) || o.W != [6]int64{} {
				t.Fatal("the counter comes to 0:", o, f, a)
			}
			if x, _, a := group.Wait(o, begin(api.OpWait)); !trial.SameAct(a, isDone) || !trial.SameObj(x, o) {
				t.Fatal("waiting at 0:", x, a)
			}
			// Another one counts, and others come to wait for that.
			o, _, _, _ = count(t, o, 1)
			o = come(t, o, late)
			gives := 0
			for !a.Done {
				if o, f, a = group.Count(o, f, -1); a.Give != 3 || gives >= n {
					t.Fatalf("%d are given, %d came late: %v %+v %+v", gives, late, o, f, a)
				}
				gives++
			}
			if gives != n || o.W != [6]int64{1, int64(late)} {
				t.Fatalf("%d of %d are let go, %d came late: %v", gives, n, late, o)
			}
			if x, _, gives, _ := count(t, o, -1); gives != late || x.W != [6]int64{} {
				t.Fatalf("%d of %d who came late are let go: %v", gives, late, x)
			}
		}
	}
}
