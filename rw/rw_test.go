package rw_test

import (
	"math"
	"testing"

	"torpor/api"
	"torpor/mutex"
	"torpor/rw"
	"torpor/trial"
)

const (
	least = math.MinInt64
	most  = math.MaxInt64
)

// objects are objects of those words: a lock of readers and writers, and others.
func objects(w [6]int64) []api.Obj {
	return trial.Objects(api.KindRW, w)
}

// full is an object of another kind, all of whose words and lists hold something, with that count, and that many for whom the writer waits.
func full(count, waits int64) api.Obj {
	return trial.Full([6]int64{9, -3, least, most, count, waits})
}

// counts are a count's edges: 0, Max and what is near them, above and below, and the least and the greatest words.
func counts() []int64 {
	l := []int64{0, least, least + 1, least + Max - 1, least + Max, least + Max + 1, most, most - 1, most - Max, most - Max + 1}
	for _, x := range []int64{1, 2, 3, Max - 2, Max - 1, Max, Max + 1, Max + 2, 2 * Max, 1 << 31, 1 << 32, 1<<32 + Max} {
		l = append(l, x, -x)
	}
	return l
}

// few are the edges of W[5], and of Left.
func few() []int64 {
	return []int64{0, 1, -1, 2, -2, 3, -3, 12, Max, -Max, 1 << 32, -1 << 32, most, most - 1, least, least + 1}
}

// frames are frames of a stage, with that Left.
func frames(stage int, left int64) []api.Frame {
	return trial.Frames(api.OpWLock, stage, left)
}

// at is a frame, but of that stage.
func at(f api.Frame, stage int) api.Frame {
	f.Stage = stage
	return f
}

// counting are words with that count; the others are to stay as they are.
func counting(count int64) [6]int64 {
	return [6]int64{9, -3, least, most, count, 12}
}

// P16.1: each step of each call, of all counts, all W[5] and all Left at the edges, and where W[5] and Left make 0.
func TestEachStep(t *testing.T) {
	for _, count := range counts() {
		for _, waits := range few() {
			for stage := range 4 {
				for _, left := range append(few(), sum(0, -waits), sum(1, -waits), sum(-1, -waits)) {
					for _, f := range frames(stage, left) {
						for _, c := range calls() {
							c.Check(t, full(count, waits), f)
						}
					}
				}
			}
		}
	}
}

// P16.1: each step, of objects of any kind, also such as may not be, and of which nothing is told.
func TestAnyObject(t *testing.T) {
	for _, count := range counts() {
		for _, o := range objects([6]int64{1, 2, 3, 4, count, 1}) {
			for stage := -1; stage <= 4; stage++ {
				for _, f := range frames(stage, -1) {
					for _, c := range calls() {
						c.Check(t, o, f)
					}
				}
			}
		}
	}
	for _, c := range calls() {
		c.Check(t, api.Obj{}, api.Frame{})
	}
}

// P16.1: of any other Stage nothing is done, and the act is empty.
func TestOtherStages(t *testing.T) {
	for _, w := range [][6]int64{{}, {1}, {0, 1, 1, 1, 1, 1}, {9, 1, 1, 1, -Max, 0}, {4: 1 - Max, 5: 1}, {4: -1}, {least, least, least, least, least, least}} {
		for _, stage := range trial.Others(4) {
			for _, f := range append(frames(stage, 0), frames(stage, 1)...) {
				for _, c := range calls() {
					c.CheckNothing(t, api.KindRW, w, f)
				}
			}
		}
		// These are stages of other calls alone.
		for _, f := range append(frames(2, 1), frames(3, 1)...) {
			reading().CheckNothing(t, api.KindRW, w, f)
		}
		for _, f := range append(frames(3, 0), frames(3, 1)...) {
			leaving().CheckNothing(t, api.KindRW, w, f)
			ending().CheckNothing(t, api.KindRW, w, f)
		}
	}
}

// P16.1: reading, by answers written out: W[4] that is below 0 behind the step, 0, and above.
func TestRead(t *testing.T) {
	begin := mutex.Begin(api.OpRLock)
	in, oddIn := api.Frame{Op: 28, Stage: 1, Since: -1, Need: 4}, trial.Odd(1)
	oddIn.Need = 4
	var rows []step
	for _, n := range []int64{-1, 0, 1, 2, 100, Max - 2, Max - 1, Max, Max + 1, 1 << 32, most - 1} {
		for _, f := range []api.Frame{begin, trial.Odd(0), {}} {
			rows = append(rows, step{counting(n), f, counting(n + 1), api.Frame{}, api.Act{Done: true}})
		}
	}
	for _, n := range []int64{-2, -3, 1 - Max, 2 - Max, -Max, -Max - 1, -Max - 2, -1 << 32, least, least + 1} {
		rows = append(rows, step{counting(n), begin, counting(n + 1), in, api.Act{}}, step{counting(n), trial.Odd(0), counting(n + 1), oddIn, api.Act{}})
	}
	// One more than the greatest word is the least one.
	rows = append(rows, step{counting(most), begin, counting(least), in, api.Act{}})
	for _, n := range counts() {
		got := in
		got.Need = 0
		for _, f := range []api.Frame{got, oddIn, {Stage: 1}} {
			rows = append(rows, step{counting(n), f, counting(n), api.Frame{}, api.Act{Done: true}})
		}
	}
	checkRows(t, reading(), rows)
}

// P16.1: reading no more, by answers written out: the fault at 0 and at -Max, which changes nothing; W[4] that is below 0 behind the step, and that isn't.
func TestLeave(t *testing.T) {
	begin := mutex.Begin(api.OpRUnlock)
	var rows []step
	for _, f := range []api.Frame{begin, trial.Odd(0), {}} {
		for _, n := range []int64{0, -Max} {
			rows = append(rows, step{counting(n), f, counting(n), api.Frame{}, api.Act{Fault: api.FaultUnlock}})
		}
		for _, n := range []int64{1, 2, 3, 100, Max - 1, Max, Max + 1, 1 << 32, most - 1, most} {
			rows = append(rows, step{counting(n), f, counting(n - 1), api.Frame{}, api.Act{Done: true}})
		}
		for _, n := range []int64{-1, -2, 1 - Max, 2 - Max, 3 - Max, -Max - 1, -Max - 2, -2 * Max, -1 << 32, least + 1} {
			rows = append(rows, step{counting(n), f, counting(n - 1), at(f, 1), api.Act{}})
		}
		// One less than the least word is the greatest one.
		rows = append(rows, step{counting(least), f, counting(most), api.Frame{}, api.Act{Done: true}})
	}
	checkRows(t, leaving(), rows)
}

// P16.1: reading no more, by answers written out: W[5] that is 0 behind the step, and that isn't; the semaphore that is given.
func TestLeaveWaitedFor(t *testing.T) {
	var rows []step
	for _, f := range []api.Frame{mutex.Begin(api.OpRUnlock), trial.Odd(0), {}} {
		for _, count := range []int64{0, 1, -1, -Max, 1 - Max, least, most} {
			with := func(waits int64) [6]int64 {
				return [6]int64{9, -3, least, most, count, waits}
			}
			rows = append(rows, step{with(1), at(f, 1), with(0), at(f, 2), api.Act{}})
			for _, n := range []int64{0, 2, 3, 100, Max, 1 << 32, 1<<32 + 1, most, -1, -2, -Max, least + 1} {
				rows = append(rows, step{with(n), at(f, 1), with(n - 1), api.Frame{}, api.Act{Done: true}})
			}
			rows = append(rows, step{with(least), at(f, 1), with(most), api.Frame{}, api.Act{Done: true}})
			for _, n := range few() {
				rows = append(rows, step{with(n), at(f, 2), with(n), api.Frame{}, api.Act{Done: true, Give: 3}})
			}
		}
	}
	checkRows(t, leaving(), rows)
}

// P16.1: Readers, by answers written out: with a writer and without, at 0, at -Max, at the least word.
func TestReaders(t *testing.T) {
	for _, k := range []struct {
		count, n int64
		writer   bool
	}{
		{0, 0, false}, {1, 1, false}, {2, 2, false}, {Max - 1, Max - 1, false}, {Max, Max, false}, {Max + 1, Max + 1, false}, {1 << 32, 1 << 32, false}, {most, most, false},
		{-Max, 0, true}, {1 - Max, 1, true}, {2 - Max, 2, true}, {-1, Max - 1, true}, {-2, Max - 2, true}, {-Max - 1, -1, true}, {-2 * Max, -Max, true},
		{-1 << 32, Max - 1<<32, true}, {least, least + Max, true}, {least + 1, least + Max + 1, true},
	} {
		// The other words don't count.
		for _, w := range [][6]int64{{4: k.count}, {9, -3, least, most, k.count, 12}, {-1, -1, -1, -1, k.count, -1}} {
			for _, o := range objects(w) {
				trial.Asks(t, "Readers", o, func(o api.Obj) {
					if n, writer := rw.Readers(o); n != k.n || writer != k.writer {
						t.Errorf("Readers of %d: %d %v", k.count, n, writer)
					}
				})
			}
		}
	}
	if n, writer := rw.Readers(api.Obj{}); n != 0 || writer {
		t.Error("Readers of an empty object:", n, writer)
	}
}

// P16.1: the chapter's example, step by step.
func TestExample(t *testing.T) {
	o, _, a := rw.RLock(api.Obj{Kind: api.KindRW}, mutex.Begin(api.OpRLock))
	if o.W != [6]int64{4: 1} || !a.Done {
		t.Fatal("one reads:", o, a)
	}
	f := mutex.Begin(api.OpWLock)
	for k, w := range [][6]int64{{1, 0, 0, 0, 1, 0}, {1, 0, 0, 0, 1 - Max, 0}, {1, 0, 0, 0, 1 - Max, 1}} {
		if o, f, a = rw.WLock(o, f, 7, 20); o.W != w || a.Done || (f.Need == 3) != (k == 2) {
			t.Fatal("one would write:", k, o, f, a)
		}
	}
	if n, writer := rw.Readers(o); n != 1 || !writer {
		t.Error("one reads, and one waits:", n, writer)
	}
	g := mutex.Begin(api.OpRUnlock)
	for k, w := range [][6]int64{{1, 0, 0, 0, -Max, 1}, {1, 0, 0, 0, -Max, 0}, {1, 0, 0, 0, -Max, 0}} {
		if o, g, a = rw.RUnlock(o, g); o.W != w || a.Done != (k == 2) || (a.Give == 3) != (k == 2) || a.Hand {
			t.Fatal("the reader goes:", k, o, g, a)
		}
	}
	// It got the semaphore.
	f.Need = 0
	if o, f, a = rw.WLock(o, f, 9, 20); !a.Done || o.W != [6]int64{0: 1, 4: -Max} || f != (api.Frame{}) {
		t.Error("the writer:", o, f, a)
	}
}

// P16.1: what is answered is the caller's own: none of it is changed by what is done to another answer, or by a later call.
func TestAnswersStay(t *testing.T) {
	o := full(1, 1)
	var got []api.Obj
	for stage := -1; stage <= 4; stage++ {
		for _, f := range frames(stage, 1) {
			for _, c := range calls() {
				x := c.Step(o, f)
				got = append(got, x.O, c.Step(x.O, x.F).O)
			}
		}
	}
	trial.Apart(t, "a step", got)
	if !trial.SameObj(o, full(1, 1)) {
		t.Error("what was handed in is changed:", o)
	}
}

// P16.1: a call hangs on its arguments alone, whatever was called before.
func TestNothingIsKept(t *testing.T) {
	for range 3 {
		for _, count := range counts() {
			for stage := range 4 {
				for _, c := range calls() {
					for _, f := range frames(stage, 2) {
						c.Check(t, full(count, 1), f)
						c.Check(t, full(count, -2), f)
					}
				}
			}
		}
	}
}

// P16.1: no word but those that a stage names is changed, and nothing else of the object; a step that is done, and a fault, leave an empty frame, a fault changes nothing; and what isn't done asks for nothing, but for a semaphore where readers are let in.
func TestLittleIsChanged(t *testing.T) {
	named := map[string][][]int{
		"RLock": {{4}, {}}, "RUnlock": {{4}, {5}, {}}, "WLock": {{0}, {4}, {5}, {}}, "WUnlock": {{4}, {}, {0}},
	}
	for _, count := range counts() {
		for _, waits := range few() {
			for _, left := range few() {
				for _, c := range calls() {
					for stage := -1; stage <= 4; stage++ {
						var may []int
						if 0 <= stage && stage < len(named[c.Name]) {
							may = named[c.Name][stage]
						}
						for _, f := range frames(stage, left) {
							x := c.Little(t, full(count, waits), f, may...)
							want := api.Act{}
							if c.Name == "WUnlock" && stage == 1 && left > 0 {
								want.Give = 4
							}
							if !x.A.Done && x.A.Fault == api.NoFault && !trial.SameAct(x.A, want) {
								t.Errorf("%s of stage %d isn't done: %+v", c.Name, stage, x.A)
							}
						}
					}
				}
			}
		}
	}
}
