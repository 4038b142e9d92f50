package mutex_test

import (
	"math"
	"testing"

	"torpor/api"
	"torpor/mutex"
	"torpor/trial"
)

const (
	least = math.MinInt64
	most  = math.MaxInt64
)

// bare is a mutex of that state, whose semaphore has 0.
func bare(state int64) api.Obj {
	return api.Obj{Kind: api.KindMutex, W: [6]int64{state}}
}

// full is an object of another kind, all of whose words and lists hold something, of that state.
func full(state int64) api.Obj {
	return trial.Full(words(state))
}

// words are those of that state; the others are to stay as they are.
func words(state int64) [6]int64 {
	return [6]int64{state, 3, least, most, -1, 9}
}

// objects are objects of that state: mutexes, one of another kind, one that may not be.
func objects(state int64) []api.Obj {
	return append(trial.Objects(api.KindMutex, words(state)), bare(state))
}

// counts are how many wait: none, one, many, as many as a state can tell, and numbers below 0.
func counts() []int64 {
	return []int64{0, 1, 2, 3, 12, 1 << 29, 1<<60 - 1, -1, -2, -1 << 60}
}

// states are the states of each of these counts, with and without each of the bits 0, 1 and 2; the least and the greatest word are two of them.
func states() []int64 {
	var l []int64
	for _, n := range counts() {
		for bits := range int64(8) {
			l = append(l, n*8+bits)
		}
	}
	return l
}

// olds are a state, and words that aren't it: unlike in one bit, in how many wait, in all.
func olds(state int64) []int64 {
	return []int64{state, state ^ 1, state ^ 2, state ^ 4, state + 8, state - 8, ^state, state ^ least, state ^ 1<<32}
}

// frames are frames of a phase, and an Old: Awoke and Starve set and not, Since at each moment, and what a step doesn't look at, once empty and once full.
func frames(phase int, old int64) []api.Frame {
	var l []api.Frame
	for _, since := range trial.Moments() {
		for flags := range 4 {
			f := api.Frame{Phase: phase, Old: old, Since: since, Awoke: flags&1 != 0, Starve: flags&2 != 0}
			l = append(l, f)
			f.Op, f.Stage, f.Left, f.Need, f.Front = api.OpWLock, 3, least, 5, true
			l = append(l, f)
		}
	}
	return l
}

// P15.1: each step of locking and of unlocking, of all states, with an Old that is the state and ones that aren't, and all frames.
func TestEachStep(t *testing.T) {
	for _, state := range states() {
		for phase := range 5 {
			for _, old := range olds(state) {
				for i, f := range frames(phase, old) {
					// The clock goes with the others; where it matters, in Phase 3, it is tried by itself below.
					now := trial.Moments()[i%len(trial.Moments())]
					checkLock(t, full(state), f, now, 20)
					checkUnlock(t, full(state), f)
				}
			}
		}
	}
}

// P15.1: each step, of objects of any kind, also such as may not be.
func TestAnyObject(t *testing.T) {
	for _, state := range states() {
		for _, o := range objects(state) {
			for phase := range 5 {
				f := api.Frame{Op: 26, Phase: phase, Old: state, Since: -1}
				checkLock(t, o, f, 7, 20)
				checkUnlock(t, o, f)
			}
		}
	}
	// An object, and a frame, of which nothing is told.
	checkLock(t, api.Obj{}, api.Frame{}, 0, 0)
	checkUnlock(t, api.Obj{}, api.Frame{})
}

// P15.1: of any other Phase nothing is done, and the act is empty.
func TestOtherPhases(t *testing.T) {
	for _, state := range []int64{0, 1, 2, 4, 8, 9, 12, -1, least, most} {
		for _, phase := range trial.Others(5) {
			for _, f := range frames(phase, state) {
				for _, c := range []trial.Call{locking(30, 20), unlocking()} {
					c.CheckNothing(t, api.KindMutex, words(state), f)
				}
			}
		}
	}
	// Phase 4 is one of locking alone.
	f := api.Frame{Op: 27, Phase: 4, Old: 12}
	unlocking().CheckNothing(t, api.KindMutex, words(13), f)
}

// row is a step, and its answer, written out.
type row struct {
	state int64
	f     api.Frame
	want  int64
	g     api.Frame
	a     api.Act
}

var isDone = api.Act{Done: true}

// checkRows holds steps against the answers that are written out.
func checkRows(t *testing.T, c trial.Call, rows []row) {
	t.Helper()
	for _, r := range rows {
		c.CheckWords(t, api.KindMutex, words(r.state), r.f, words(r.want), r.g, r.a)
	}
}

// P15.1: locking of Phase 0 and 1, by answers written out.
func TestFirstSteps(t *testing.T) {
	begin, next := api.Frame{Op: 26, Since: -1}, api.Frame{Op: 26, Phase: 1, Since: -1}
	rows := []row{{0, begin, 1, api.Frame{}, isDone}, {0, api.Frame{}, 1, api.Frame{}, isDone}}
	// Also of a state that isn't 0, but isn't locked either.
	for _, s := range []int64{1, 2, 3, 4, 5, 6, 7, 8, 9, 10, 12, 16, 17, 800, 801, 1 << 32, least, most, -1, -8} {
		rows = append(rows, row{s, begin, s, next, api.Act{}},
			row{s, next, s, api.Frame{Op: 26, Phase: 2, Old: s, Since: -1}, api.Act{}})
	}
	rows = append(rows,
		row{0, next, 0, api.Frame{Op: 26, Phase: 2, Since: -1}, api.Act{}},
		row{17, api.Frame{Phase: 1, Old: 3, Since: 4, Left: 5, Awoke: true, Starve: true, Front: true}, 17,
			api.Frame{Phase: 2, Old: 17, Since: 4, Left: 5, Awoke: true, Starve: true, Front: true}, api.Act{}})
	checkRows(t, locking(7, 20), rows)
}

// P15.1: locking of Phase 2, by answers written out: Old that isn't the state; locked or not, woken or not, starving or not; Awoke and Starve; Since, Front and Need.
func TestCome(t *testing.T) {
	come := func(old, since int64, awoke, starve bool) api.Frame {
		return api.Frame{Op: 26, Phase: 2, Old: old, Since: since, Awoke: awoke, Starve: starve}
	}
	wait := func(old, since int64, awoke, starve, front bool) api.Frame {
		return api.Frame{Op: 26, Phase: 3, Old: old, Since: since, Awoke: awoke, Starve: starve, Need: 2, Front: front}
	}
	again := func(f api.Frame) api.Frame {
		f.Phase = 1
		return f
	}
	var rows []row
	for _, s := range []int64{0, 1, 8, 9, 12, -1, least, most} {
		for _, old := range olds(s)[1:] {
			f := come(old, 3, true, true)
			rows = append(rows, row{s, f, s, again(f), api.Act{}})
		}
	}
	rows = append(rows,
		// Nobody has locked it: it is done.
		row{0, come(0, -1, false, false), 1, api.Frame{}, isDone}, row{0, come(0, -1, true, true), 1, api.Frame{}, isDone},
		row{2, come(2, -1, false, false), 3, api.Frame{}, isDone}, row{2, come(2, 0, true, false), 1, api.Frame{}, isDone},
		row{8, come(8, -1, false, false), 9, api.Frame{}, isDone}, row{8, come(8, 5, true, true), 9, api.Frame{}, isDone},
		row{10, come(10, -1, false, false), 11, api.Frame{}, isDone}, row{10, come(10, 5, true, true), 9, api.Frame{}, isDone},
		row{800, come(800, -1, false, true), 801, api.Frame{}, isDone}, row{802, come(802, 0, true, true), 801, api.Frame{}, isDone},
		row{-8, come(-8, -1, false, false), -7, api.Frame{}, isDone}, row{-6, come(-6, 0, true, false), -7, api.Frame{}, isDone},
		row{least, come(least, -1, false, true), least + 1, api.Frame{}, isDone},
		row{most - 5, come(most-5, 0, true, false), most - 6, api.Frame{}, isDone},
		// It is locked: one more waits.
		row{1, come(1, -1, false, false), 9, wait(1, 7, false, false, false), api.Act{}},
		row{1, come(1, -2, false, true), 13, wait(1, 7, false, true, false), api.Act{}},
		row{1, come(1, least, true, false), 9, wait(1, 7, true, false, false), api.Act{}},
		row{3, come(3, -1, false, false), 11, wait(3, 7, false, false, false), api.Act{}},
		row{3, come(3, 0, true, false), 9, wait(3, 0, true, false, true), api.Act{}},
		row{3, come(3, 4, true, true), 13, wait(3, 4, true, true, true), api.Act{}},
		row{9, come(9, 9, false, false), 17, wait(9, 9, false, false, true), api.Act{}},
		row{801, come(801, most, false, false), 809, wait(801, most, false, false, true), api.Act{}},
		row{803, come(803, 1, true, true), 813, wait(803, 1, true, true, true), api.Act{}},
		row{-7, come(-7, 0, false, false), 1, wait(-7, 0, false, false, true), api.Act{}},
		row{least + 1, come(least+1, 0, false, false), least + 9, wait(least+1, 0, false, false, true), api.Act{}},
		// One more than a word can tell is cut to 64 bits.
		row{most - 6, come(most-6, 0, false, false), least + 1, wait(most-6, 0, false, false, true), api.Act{}},
		row{most, come(most, 0, true, true), least + 5, wait(most, 0, true, true, true), api.Act{}},
		// It starves: one more waits, and it isn't locked; and locked, it stays so.
		row{4, come(4, -1, false, false), 12, wait(4, 7, false, false, false), api.Act{}},
		row{4, come(4, -1, false, true), 12, wait(4, 7, false, true, false), api.Act{}},
		row{6, come(6, 0, true, false), 12, wait(6, 0, true, false, true), api.Act{}},
		row{5, come(5, -1, false, false), 13, wait(5, 7, false, false, false), api.Act{}},
		row{12, come(12, -1, false, false), 20, wait(12, 7, false, false, false), api.Act{}},
		row{12, come(12, 5, true, true), 20, wait(12, 5, true, true, true), api.Act{}},
		row{13, come(13, 5, false, true), 21, wait(13, 5, false, true, true), api.Act{}},
		row{15, come(15, 5, true, true), 21, wait(15, 5, true, true, true), api.Act{}},
		row{-4, come(-4, -1, false, false), 4, wait(-4, 7, false, false, false), api.Act{}},
		row{most - 3, come(most-3, -1, false, false), least + 4, wait(most-3, 7, false, false, false), api.Act{}})
	checkRows(t, locking(7, 20), rows)
}

// P15.1: locking of Phase 2: who waits from now on does so since now, whatever the clock is.
func TestSince(t *testing.T) {
	for _, now := range trial.Moments() {
		for _, since := range trial.Moments() {
			f := api.Frame{Phase: 2, Old: 9, Since: since}
			checkLock(t, bare(9), f, now, 20)
			_, g, _ := mutex.Lock(bare(9), f, now, 20)
			want := since
			if since < 0 {
				want = now
			}
			if g.Since != want || g.Front != (since >= 0) || g.Need != 2 {
				t.Errorf("Since %d at %d: %+v", since, now, g)
			}
		}
	}
}

// P15.1: locking of Phase 3: who waited for just the patience, one tick less, one more; so, too, where the difference is cut to 64 bits.
func TestPatience(t *testing.T) {
	for _, k := range []struct {
		now, since, patience int64
		want                 bool
	}{
		{29, 10, 20, false}, {30, 10, 20, false}, {31, 10, 20, true}, {10, 10, 20, false}, {9, 10, 20, false},
		{0, 0, 0, false}, {1, 0, 0, true}, {0, 1, 0, false}, {0, 0, -1, true}, {5, 5, -1, true}, {5, 6, -1, false}, {5, 7, -1, false},
		{20, 0, 20, false}, {21, 0, 20, true}, {19, -1, 20, false}, {20, -1, 20, true}, {most, 0, most, false}, {most, 0, most - 1, true},
		{1 << 33, 0, 1 << 33, false}, {1<<33 + 1, 0, 1 << 33, true}, {1 << 32, 0, 5, true}, {1<<32 + 5, 1 << 32, 5, false},
		// These differences don't fit: they are the least number, or come round.
		{most, -1, 20, false}, {most, -1, most, false}, {most, -1, least, false}, {most, -2, least, true}, {most, least, -2, true}, {most, least, -1, false},
		{least, 1, 20, true}, {least, 1, most - 1, true}, {least, 1, most, false}, {least, most, 0, true}, {least, most, 1, false},
		{least, 0, 0, false}, {least, 0, least, false}, {least + 1, 0, least, true}, {0, least, 0, false}, {-1, least, most - 1, true}, {-1, least, most, false},
	} {
		for _, state := range []int64{0, 2, 9, 4, 12, 13} {
			f := api.Frame{Op: 26, Phase: 3, Old: 1, Since: k.since}
			checkLock(t, full(state), f, k.now, k.patience)
			if _, g, _ := mutex.Lock(full(state), f, k.now, k.patience); g.Starve != k.want || g.Since != k.since {
				t.Errorf("at %d since %d, patience %d: %+v", k.now, k.since, k.patience, g)
			}
			// Who starved does so still, however long it waited.
			f.Starve = true
			checkLock(t, full(state), f, k.now, k.patience)
			if _, g, _ := mutex.Lock(full(state), f, k.now, k.patience); !g.Starve {
				t.Errorf("at %d since %d, patience %d: it starves no more", k.now, k.since, k.patience)
			}
		}
	}
	for _, now := range trial.Moments() {
		for _, since := range trial.Moments() {
			for _, patience := range append(trial.Moments(), now-since, now-since-1, now-since+1) {
				checkLock(t, bare(2), api.Frame{Phase: 3, Since: since}, now, patience)
			}
		}
	}
}

// P15.1: locking of Phase 3, by answers written out: a state that starves, and one that doesn't.
func TestWoken(t *testing.T) {
	f := api.Frame{Op: 26, Phase: 3, Old: 1, Since: 5}
	come := func(old int64) api.Frame {
		return api.Frame{Op: 26, Phase: 2, Old: old, Since: 5, Awoke: true}
	}
	hand := func(old int64) api.Frame {
		return api.Frame{Op: 26, Phase: 4, Old: old, Since: 5}
	}
	var rows []row
	for _, s := range []int64{0, 1, 2, 3, 8, 9, 10, 16, 803, -8, -6, least, most - 4} {
		rows = append(rows, row{s, f, s, come(s), api.Act{}})
	}
	for _, s := range []int64{4, 5, 6, 7, 12, 13, 15, 20, 804, -4, -1, least + 4, most} {
		rows = append(rows, row{s, f, s, hand(s), api.Act{}})
	}
	woken, front := f, f
	woken.Awoke = true
	front.Front, front.Starve = true, true
	rows = append(rows,
		row{2, woken, 2, come(2), api.Act{}},
		row{12, woken, 12, api.Frame{Op: 26, Phase: 4, Old: 12, Since: 5, Awoke: true}, api.Act{}},
		row{2, front, 2, api.Frame{Op: 26, Phase: 2, Old: 2, Since: 5, Awoke: true, Starve: true, Front: true}, api.Act{}},
		row{12, front, 12, api.Frame{Op: 26, Phase: 4, Old: 12, Since: 5, Starve: true, Front: true}, api.Act{}})
	checkRows(t, locking(7, 20), rows)
}

// P15.1: locking of Phase 4, by answers written out: Starve or not, an Old that is 8 to 15, and others; words that are cut.
func TestHanded(t *testing.T) {
	hand := func(old int64, starve bool) api.Frame {
		return api.Frame{Op: 26, Phase: 4, Old: old, Since: 5, Starve: starve}
	}
	rows := []row{
		{12, hand(12, true), 1, api.Frame{}, isDone}, {12, hand(12, false), 1, api.Frame{}, isDone},
		{20, hand(20, true), 13, api.Frame{}, isDone}, {20, hand(20, false), 9, api.Frame{}, isDone},
		{804, hand(804, true), 797, api.Frame{}, isDone}, {804, hand(804, false), 793, api.Frame{}, isDone},
		// The state may be another one than Old.
		{20, hand(12, true), 9, api.Frame{}, isDone}, {12, hand(20, true), 5, api.Frame{}, isDone},
		{0, hand(16, true), -7, api.Frame{}, isDone}, {0, hand(16, false), -11, api.Frame{}, isDone}, {0, hand(8, true), -11, api.Frame{}, isDone},
		{7, hand(16, true), 0, api.Frame{}, isDone}, {11, hand(16, false), 0, api.Frame{}, isDone},
		{least, hand(16, true), most - 6, api.Frame{}, isDone}, {least, hand(16, false), most - 10, api.Frame{}, isDone},
		{least + 7, hand(16, true), least, api.Frame{}, isDone}, {least + 10, hand(12, true), most, api.Frame{}, isDone},
		{most, hand(least, true), most - 7, api.Frame{}, isDone}, {most, hand(most, false), most - 11, api.Frame{}, isDone},
	}
	for old := int64(-20); old <= 40; old++ {
		want := int64(20 - 7)
		if 8 <= old && old <= 15 {
			want = 20 - 7 - 4
		}
		rows = append(rows, row{20, hand(old, true), want, api.Frame{}, isDone}, row{20, hand(old, false), 9, api.Frame{}, isDone})
	}
	for _, old := range []int64{least, least + 8, least + 15, most, 1<<32 + 8, 1<<32 + 15, -1 << 32, -8, 8 << 32} {
		rows = append(rows, row{20, hand(old, true), 13, api.Frame{}, isDone}, row{20, hand(old, false), 9, api.Frame{}, isDone})
	}
	checkRows(t, locking(7, 20), rows)
}

// P15.1: unlocking of Phase 0, by answers written out.
func TestUnlockAtOnce(t *testing.T) {
	begin := api.Frame{Op: 27, Since: -1}
	next := func(phase int, old int64) api.Frame {
		return api.Frame{Op: 27, Phase: phase, Old: old, Since: -1}
	}
	fault := api.Act{Fault: api.FaultUnlock}
	var rows []row
	for _, s := range []int64{0, 2, 4, 6, 8, 10, 12, 14, 16, 800, 1 << 32, -2, -8, least, least + 4, most - 1} {
		rows = append(rows, row{s, begin, s, api.Frame{}, fault}, row{s, api.Frame{}, s, api.Frame{}, fault})
	}
	rows = append(rows, row{1, begin, 0, api.Frame{}, isDone})
	for _, s := range []int64{3, 9, 11, 17, 19, 801, 1<<32 + 1, -7, -5, least + 1, most - 6} {
		rows = append(rows, row{s, begin, s - 1, next(1, s-1), api.Act{}})
	}
	for _, s := range []int64{5, 7, 13, 15, 21, 805, 1<<32 + 5, -3, -1, least + 5, most} {
		rows = append(rows, row{s, begin, s - 1, next(2, s-1), api.Act{}})
	}
	checkRows(t, unlocking(), rows)
}

// P15.1: unlocking of Phase 1, by answers written out: none waits, somebody goes on already, the state is another one, one is to be woken.
func TestWakeOne(t *testing.T) {
	wake := func(old int64) api.Frame {
		return api.Frame{Op: 27, Phase: 1, Old: old, Since: -1}
	}
	give := func(old int64) api.Frame {
		return api.Frame{Op: 27, Phase: 3, Old: old, Since: -1}
	}
	var rows []row
	// By Old it is done, whatever the state is.
	for _, old := range []int64{0, 1, 2, 3, 4, 5, 6, 7, 9, 10, 11, 12, 13, 14, 15, 17, 18, 20, 801, 802, 804, -1, -2, -4, -7, least + 1, least + 2, least + 4, most, most - 1, most - 3} {
		for _, s := range []int64{old, 0, 8, 9, 16, least, most} {
			rows = append(rows, row{s, wake(old), s, api.Frame{}, isDone})
		}
	}
	for _, old := range []int64{8, 16, 800, 1 << 32, -8, -16, least, most - 7} {
		for _, s := range olds(old)[1:] {
			rows = append(rows, row{s, wake(old), s, wake(s), api.Act{}})
		}
	}
	rows = append(rows,
		row{8, wake(8), 2, give(8), api.Act{}}, row{16, wake(16), 10, give(16), api.Act{}}, row{800, wake(800), 794, give(800), api.Act{}},
		row{1 << 32, wake(1 << 32), 1<<32 - 6, give(1 << 32), api.Act{}}, row{most - 7, wake(most - 7), most - 13, give(most - 7), api.Act{}},
		row{-8, wake(-8), -14, give(-8), api.Act{}}, row{least, wake(least), most - 5, give(least), api.Act{}})
	checkRows(t, unlocking(), rows)
}

// P15.1: unlocking of Phase 2 and 3: the semaphore is given, hand to hand and not, whatever the state and the frame are.
func TestGive(t *testing.T) {
	var rows []row
	for _, s := range states() {
		for _, old := range []int64{0, s, most} {
			for _, f := range frames(2, old) {
				rows = append(rows, row{s, f, s, api.Frame{}, api.Act{Done: true, Give: 2, Hand: true}})
				f.Phase = 3
				rows = append(rows, row{s, f, s, api.Frame{}, api.Act{Done: true, Give: 2}})
			}
		}
	}
	checkRows(t, unlocking(), rows)
}

// P15.1: Locked, of all states, and objects of any kind.
func TestLocked(t *testing.T) {
	for _, k := range []struct {
		state int64
		want  bool
	}{
		{0, false}, {1, true}, {2, false}, {3, true}, {4, false}, {5, true}, {6, false}, {7, true}, {8, false}, {9, true},
		{12, false}, {14, false}, {-1, true}, {-2, false}, {least, false}, {least + 1, true}, {most, true}, {most - 1, false}, {1 << 32, false},
	} {
		for _, o := range objects(k.state) {
			if mutex.Locked(o) != k.want {
				t.Errorf("Locked of %d isn't %v", k.state, k.want)
			}
		}
	}
	for _, state := range states() {
		for _, o := range objects(state) {
			trial.Asks(t, "Locked", o, func(o api.Obj) {
				if mutex.Locked(o) != bit(state, 0) {
					t.Errorf("Locked of %d isn't %v", state, bit(state, 0))
				}
			})
		}
	}
	// The other words don't count.
	if mutex.Locked(api.Obj{W: [6]int64{0, 1, 1, 1, 1, 1}}) || !mutex.Locked(api.Obj{W: [6]int64{1}}) {
		t.Error("Locked of another word")
	}
}

// P15.1: Begin, of each op there is, and of numbers that are none.
func TestBegin(t *testing.T) {
	ops := []int{-1, -2, 42, 100, math.MinInt, math.MaxInt, 1 << 32}
	for op := range 42 {
		ops = append(ops, op)
	}
	for _, op := range ops {
		if f := mutex.Begin(op); f != (api.Frame{Op: op, Since: -1}) {
			t.Errorf("Begin(%d): %+v", op, f)
		}
	}
}

// P15.1: the chapter's example.
func TestExample(t *testing.T) {
	o, _, a := mutex.Lock(bare(0), mutex.Begin(api.OpLock), 0, 20)
	if o.W != [6]int64{1} || !a.Done {
		t.Fatal("locked:", o, a)
	}
	f := mutex.Begin(api.OpLock)
	for k, w := range []int64{1, 1, 9} {
		if o, f, a = mutex.Lock(o, f, 3, 20); o.W != [6]int64{w} || a.Done || (f.Need == 2) != (w == 9) {
			t.Fatal("one comes:", k, o, f, a)
		}
	}
	g := mutex.Begin(api.OpUnlock)
	for k, w := range []int64{8, 2, 2} {
		if o, g, a = mutex.Unlock(o, g); o.W != [6]int64{w} || a.Done != (k == 2) || (a.Give == 2) != (k == 2) || a.Hand {
			t.Fatal("unlocked:", k, o, g, a)
		}
	}
	f.Need = 0
	for k, w := range []int64{2, 1} {
		if o, f, a = mutex.Lock(o, f, 5, 20); o.W != [6]int64{w} || a.Done != (k == 1) {
			t.Fatal("woken:", k, o, f, a)
		}
	}
	if f != (api.Frame{}) || !mutex.Locked(o) {
		t.Error("at the end:", o, f)
	}
}

// P15.1: what is answered is the caller's own: none of it is changed by what is done to another answer, or by a later call.
func TestAnswersStay(t *testing.T) {
	o := full(9)
	var got []api.Obj
	for phase := -1; phase <= 5; phase++ {
		for range 2 {
			f := api.Frame{Phase: phase, Old: 9, Since: -1}
			x, _, _ := mutex.Lock(o, f, 7, 20)
			y, _, _ := mutex.Unlock(o, f)
			z, _, _ := mutex.Unlock(x, f)
			got = append(got, x, y, z)
		}
	}
	trial.Apart(t, "Lock and Unlock", got)
	if !trial.SameObj(o, full(9)) {
		t.Error("what was handed in is changed:", o)
	}
}

// P15.1: a call hangs on its arguments alone, whatever was called before.
func TestNothingIsKept(t *testing.T) {
	for range 3 {
		for _, state := range states() {
			for phase := range 5 {
				f := api.Frame{Phase: phase, Old: state, Since: 5}
				checkLock(t, bare(state), f, 7, 1)
				checkLock(t, bare(state), f, 7, 2)
				checkUnlock(t, bare(state), f)
			}
		}
	}
}

// P15.1: whatever is done, no word but W[0] is changed, and nothing else of the object; a step that is done, and a fault, leave an empty frame, and a fault, and any act but one that is done, asks for nothing else.
func TestLittleIsChanged(t *testing.T) {
	for _, state := range states() {
		for phase := -1; phase <= 5; phase++ {
			for _, old := range olds(state) {
				for _, f := range frames(phase, old) {
					for _, c := range []trial.Call{locking(7, 20), unlocking()} {
						x := c.Little(t, full(state), f, 0)
						if !x.A.Done && x.A.Fault == api.NoFault && !trial.SameAct(x.A, api.Act{}) {
							t.Errorf("%s of Phase %d isn't done: %+v", c.Name, phase, x.A)
						}
					}
				}
			}
		}
	}
}

// P15.2: a locking step of Phase 0 or 2 is done only where nobody had locked it, and behind it somebody has; an unlocking one of Phase 0 is a fault just where nobody had.
func TestOneAtATime(t *testing.T) {
	locks, faults := 0, 0
	for _, state := range states() {
		had := mutex.Locked(full(state))
		for _, old := range olds(state) {
			for _, phase := range []int{0, 2} {
				for _, f := range frames(phase, old) {
					o, _, a := mutex.Lock(full(state), f, 7, 20)
					if a.Done && (had || !mutex.Locked(o)) {
						t.Errorf("Lock of Phase %d: from %d to %d", phase, state, o.W[0])
					}
					if a.Done {
						locks++
					}
				}
			}
			for _, f := range frames(0, old) {
				o, _, a := mutex.Unlock(full(state), f)
				if (a.Fault == api.FaultUnlock) == had || a.Fault != api.NoFault && a.Fault != api.FaultUnlock || mutex.Locked(o) {
					t.Errorf("Unlock of %d: %d, %+v", state, o.W[0], a)
				}
				if a.Fault != api.NoFault {
					faults++
				}
			}
		}
	}
	if locks == 0 || faults == 0 {
		t.Error("never met:", locks, faults)
	}
}

// P15.2: one task alone locks by one step, and unlocks by one, as often as it likes; unlocking once more is a fault.
func TestAlone(t *testing.T) {
	for _, o := range objects(0) {
		for k := range int64(50) {
			x, f, a := mutex.Lock(o, mutex.Begin(api.OpLock), k, 0)
			if !trial.SameAct(a, isDone) || f != (api.Frame{}) || !mutex.Locked(x) || x.W[0] != 1 {
				t.Fatal("Lock:", x, f, a)
			}
			y, f, a := mutex.Unlock(x, mutex.Begin(api.OpUnlock))
			if !trial.SameAct(a, isDone) || f != (api.Frame{}) || mutex.Locked(y) || !trial.SameObj(y, o) {
				t.Fatal("Unlock:", y, f, a)
			}
			z, f, a := mutex.Unlock(y, mutex.Begin(api.OpUnlock))
			if !trial.SameAct(a, api.Act{Fault: api.FaultUnlock}) || f != (api.Frame{}) || !trial.SameObj(z, o) {
				t.Fatal("Unlock once more:", z, f, a)
			}
			o = z
		}
	}
}
