package group_test

import (
	"slices"
	"testing"

	"torpor/api"
	"torpor/group"
	"torpor/trial"
)

// bys are by how much is counted: 0, 1, MaxCount and what is near it, above and below, and the least and the greatest words.
func bys() []int64 {
	l := []int64{0, least, least + 1, most, most - 1}
	for _, x := range []int64{1, 2, 3, 12, Max - 1, Max, Max + 1, Max + 2, 2 * Max, 1 << 32, 1<<32 + 1, 1<<32 + Max} {
		l = append(l, x, -x)
	}
	return l
}

// counters are the edges of a counter: by itself, and with that being counted.
func counters(by int64) []int64 {
	l := bys()
	for _, after := range []int64{-1, 0, 1, Max - 1, Max, Max + 1, least, least + 1, most} {
		l = append(l, after-by)
	}
	slices.Sort(l)
	return slices.Compact(l)
}

// few are the edges of how many wait, and of Left.
func few() []int64 {
	return []int64{0, 1, -1, 2, -2, 3, 12, Max, -Max, 1 << 32, -1 << 32, most, most - 1, least, least + 1}
}

// calls are all of them, by so much.
func calls(by int64) []trial.Call {
	return []trial.Call{counting(by), waiting()}
}

// P17.1: each step of each call, at all edges.
func TestEachStep(t *testing.T) {
	for _, by := range bys() {
		for _, counter := range counters(by) {
			for k, waits := range few() {
				left := few()[(k+3)%len(few())]
				for stage := -1; stage <= 2; stage++ {
					for _, f := range trial.Frames(api.OpCount, stage, left) {
						for _, c := range calls(by) {
							c.Check(t, trial.Full(words(counter, waits)), f)
						}
					}
				}
			}
		}
	}
}

// P17.1: each step, of objects of any kind, also such as may not be, and of which nothing is told.
func TestAnyObject(t *testing.T) {
	for _, by := range []int64{0, 1, -1, Max + 1} {
		for kind := -1; kind <= 7; kind++ {
			for _, w := range [][6]int64{{}, {1}, {1, 1}, {0, 2}, {2, 2}, words(1, 1), {least, least, least, least, least, least}} {
				for _, o := range trial.Objects(kind, w) {
					for stage := -1; stage <= 2; stage++ {
						for _, c := range calls(by) {
							c.Check(t, o, api.Frame{Op: 33, Stage: stage, Since: -1})
						}
					}
				}
			}
		}
		for _, c := range calls(by) {
			c.Check(t, api.Obj{}, api.Frame{})
		}
	}
}

// P17.1: of any other Stage nothing is done, and the act is empty.
func TestOtherStages(t *testing.T) {
	for _, w := range [][6]int64{{}, {1}, {1, 1, 1}, {0, 2}, words(1, 2), words(-1, -1), words(most, most), {least, least, least, least, least, least}} {
		for _, stage := range trial.Others(2) {
			for _, left := range few() {
				for _, f := range trial.Frames(api.OpWait, stage, left) {
					waiting().CheckNothing(t, api.KindGroup, w, f)
					// Also of what would be a fault.
					for _, by := range []int64{0, 1, -1, Max, Max + 1, least} {
						counting(by).CheckNothing(t, api.KindGroup, w, f)
					}
				}
			}
		}
	}
}

// P17.1: what is counted at most, and at least: more is a fault, whatever the counter is, and changes nothing.
func TestLimitsOfBy(t *testing.T) {
	checkAdd(t, Max, words(0, 0), words(Max, 0), isDone)
	checkAdd(t, Max-1, words(0, 0), words(Max-1, 0), isDone)
	checkAdd(t, -Max, words(Max, 0), words(0, 0), isDone)
	checkAdd(t, 1-Max, words(Max, 0), words(1, 0), isDone)
	// What was below 0, or above MaxCount, may be right with what is counted.
	checkAdd(t, Max, words(-Max, 0), words(0, 0), isDone)
	checkAdd(t, Max, words(1-Max, 5), words(1, 5), isDone)
	checkAdd(t, -Max, words(2*Max, 5), words(Max, 5), isDone)
	for _, by := range []int64{Max + 1, Max + 2, -Max - 1, -Max - 2, 2 * Max, -2 * Max, 1 << 32, -1 << 32, 1<<32 + 1, most, most - 1, least, least + 1} {
		for _, counter := range append(counters(by), -by, 1-by, Max-by) {
			for _, waits := range []int64{0, 2, -1} {
				w := words(counter, waits)
				checkAdd(t, by, w, w, isFault)
			}
		}
	}
}

// P17.1: the counter that with what is counted is below 0, or above MaxCount: the fault, which changes nothing; so, too, where the sum is cut.
func TestLimitsOfCounter(t *testing.T) {
	for _, by := range []int64{0, 1, -1, 2, -2, 12, -12, Max - 1, 1 - Max, Max, -Max} {
		for _, waits := range few() {
			for _, after := range []int64{-1, -2, -Max, -Max - 1, Max + 1, Max + 2, 2 * Max, 1 << 32, 1<<32 + 1, -1 << 32, least, least + 1, least + Max, most, most - 1, most - Max} {
				w := words(after-by, waits)
				checkAdd(t, by, w, w, isFault)
			}
			for _, after := range []int64{1, 2, Max - 1, Max} {
				checkAdd(t, by, words(after-by, waits), words(after, waits), isDone)
			}
		}
	}
	for _, k := range []struct{ counter, by int64 }{
		{0, -1}, {1, -2}, {Max, 1}, {Max - 1, 2}, {1, Max}, {0, -Max}, {-1, 0}, {Max + 1, 0}, {-1, -1}, {Max + 1, 1},
		// These sums are cut.
		{most, 1}, {most, 2}, {most, Max}, {most - 1, 2}, {most - Max + 1, Max}, {least, -1}, {least, -2}, {least, -Max}, {least + 1, -2}, {least + Max - 1, -Max},
	} {
		w := words(k.counter, 3)
		checkAdd(t, k.by, w, w, isFault)
	}
}

// P17.1: the counter at 0 with what is counted: where nobody waits it is done; else who waits is counted, and waits no more, also below 0.
func TestAddToZero(t *testing.T) {
	for _, by := range []int64{0, 1, -1, 2, -2, 12, -12, Max - 1, 1 - Max, Max, -Max} {
		checkAdd(t, by, words(-by, 0), words(0, 0), isDone)
		for _, waits := range few() {
			if waits == 0 {
				continue
			}
			for _, f := range begins() {
				counting(by).CheckWords(t, api.KindGroup, words(-by, waits), f, words(0, 0), at(f, 1, waits), api.Act{})
			}
		}
	}
}

// P17.1: nothing is counted: a counter above 0 stays, and is done; at 0 who waits is let go.
func TestAddNothing(t *testing.T) {
	for _, counter := range []int64{0, 1, 2, Max - 1, Max} {
		checkAdd(t, 0, words(counter, 0), words(counter, 0), isDone)
	}
	for _, counter := range []int64{1, 2, Max} {
		checkAdd(t, 0, words(counter, 7), words(counter, 7), isDone)
	}
	f := begin(api.OpCount)
	counting(0).CheckWords(t, api.KindGroup, words(0, 7), f, words(0, 0), at(f, 1, 7), api.Act{})
}

// P17.1: counting's stage 1, by answers written out: it gives, whatever the counter is, and whatever is counted.
func TestLetOneGo(t *testing.T) {
	for _, by := range bys() {
		for _, w := range [][6]int64{{}, words(0, 0), words(0, 2), words(5, 1), words(-1, -1), words(most, least)} {
			for _, left := range []int64{2, 3, 12, Max, 1 << 32, 1<<32 + 1, most, least} {
				for _, f := range trial.Frames(api.OpCount, 1, left) {
					// One less than the least word is the greatest one.
					counting(by).CheckWords(t, api.KindGroup, w, f, w, at(f, 1, left-1), api.Act{Give: 3})
				}
			}
			for _, left := range []int64{1, 0, -1, -2, -Max, -1 << 32, 1 - 1<<32, least + 1} {
				for _, f := range trial.Frames(api.OpCount, 1, left) {
					counting(by).CheckWords(t, api.KindGroup, w, f, w, api.Frame{}, api.Act{Done: true, Give: 3})
				}
			}
		}
	}
}

// P17.1: waiting, by answers written out: at 0 it is done; else one waits more, and needs the semaphore.
func TestWait(t *testing.T) {
	for _, f := range append(begins(), begin(api.OpWait)) {
		needs := at(f, 1, f.Left)
		needs.Need = 3
		for _, waits := range few() {
			waiting().CheckWords(t, api.KindGroup, words(0, waits), f, words(0, waits), api.Frame{}, isDone)
			for _, counter := range bys() {
				if counter == 0 {
					continue
				}
				// One more than the greatest word is the least one.
				waiting().CheckWords(t, api.KindGroup, words(counter, waits), f, words(counter, waits+1), needs, api.Act{})
			}
		}
		waiting().CheckWords(t, api.KindGroup, words(1, most), f, words(1, least), needs, api.Act{})
	}
}

// P17.1: waiting's stage 1: it is done, whatever the counter is, and changes nothing.
func TestWaitOver(t *testing.T) {
	for _, counter := range bys() {
		for _, waits := range few() {
			for _, f := range append(trial.Frames(api.OpWait, 1, waits), trial.Odd(1)) {
				waiting().CheckWords(t, api.KindGroup, words(counter, waits), f, words(counter, waits), api.Frame{}, isDone)
			}
		}
	}
}

// P17.1: the chapter's example, step by step.
func TestExample(t *testing.T) {
	o, f, a := group.Count(api.Obj{Kind: api.KindGroup}, begin(api.OpCount), 2)
	if o.W != [6]int64{2} || !trial.SameAct(a, isDone) || f != (api.Frame{}) {
		t.Fatal("two counted:", o, f, a)
	}
	o, waits, a := group.Wait(o, begin(api.OpWait))
	if o.W != [6]int64{2, 1} || !trial.SameAct(a, api.Act{}) || waits != (api.Frame{Op: 33, Stage: 1, Since: -1, Need: 3}) {
		t.Fatal("one waits:", o, waits, a)
	}
	o, f, a = group.Count(o, begin(api.OpCount), -1)
	if o.W != [6]int64{1, 1} || !trial.SameAct(a, isDone) || f != (api.Frame{}) {
		t.Fatal("one less:", o, f, a)
	}
	o, f, a = group.Count(o, begin(api.OpCount), -1)
	if o.W != [6]int64{} || !trial.SameAct(a, api.Act{}) || f != (api.Frame{Op: 32, Stage: 1, Since: -1, Left: 1}) {
		t.Fatal("one less, 0:", o, f, a)
	}
	o, f, a = group.Count(o, f, -1)
	if o.W != [6]int64{} || !trial.SameAct(a, api.Act{Done: true, Give: 3}) || f != (api.Frame{}) {
		t.Fatal("given:", o, f, a)
	}
	// It got the semaphore.
	waits.Need = 0
	if o, f, a = group.Wait(o, waits); o.W != [6]int64{} || !trial.SameAct(a, isDone) || f != (api.Frame{}) {
		t.Error("it waited:", o, f, a)
	}
}

// P17.1: what is answered is the caller's own: none of it is changed by what is done to another answer, or by a later call.
func TestAnswersStay(t *testing.T) {
	for _, w := range [][6]int64{words(1, 2), words(0, 0), words(5, 0), words(-1, 1)} {
		o := trial.Full(w)
		var got []api.Obj
		for stage := -1; stage <= 2; stage++ {
			for _, f := range trial.Frames(api.OpCount, stage, 2) {
				for _, c := range calls(-1) {
					x := c.Step(o, f)
					got = append(got, x.O, c.Step(x.O, x.F).O)
				}
			}
		}
		trial.Apart(t, "a step", got)
		if !trial.SameObj(o, trial.Full(w)) {
			t.Error("what was handed in is changed:", o)
		}
	}
}

// P17.1: a call hangs on its arguments alone, whatever was called before.
func TestNothingIsKept(t *testing.T) {
	for range 3 {
		for _, by := range bys() {
			for stage := range 2 {
				for _, waits := range []int64{2, 0} {
					for _, c := range calls(by) {
						c.Check(t, trial.Full(words(1, waits)), at(begin(api.OpWait), stage, 2))
						c.Check(t, trial.Full(words(-by, waits)), at(begin(api.OpCount), stage, 1))
					}
				}
			}
		}
	}
}

// P17.1: no word but those that a stage names is changed, and nothing else of the object; a step that is done, and a fault, leave an empty frame, a fault changes nothing; and what isn't done asks for nothing, but for the semaphore where who waits is let go.
func TestLittleIsChanged(t *testing.T) {
	named := map[string][][]int{"Count": {{0, 1}, {}}, "Wait": {{1}, {}}}
	for _, by := range bys() {
		for _, counter := range counters(by) {
			for _, waits := range []int64{0, 1, 2, -1, least, most} {
				for _, c := range calls(by) {
					for stage, may := range named[c.Name] {
						for _, f := range trial.Frames(api.OpCount, stage, waits) {
							x := c.Little(t, trial.Full(words(counter, waits)), f, may...)
							want := api.Act{Done: x.A.Done, Fault: x.A.Fault}
							if c.Name == "Count" && stage == 1 {
								want.Give = 3
							}
							if !trial.SameAct(x.A, want) || x.A.Done && x.A.Fault != api.NoFault {
								t.Errorf("%s of stage %d asks for too much: %+v", c.Name, stage, x.A)
							}
						}
					}
				}
			}
		}
	}
}
