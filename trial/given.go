package trial

import (
	"math"
	"math/bits"

	"torpor/api"
)

// Full is an object of those words whose lists hold something, both of them, as no object's do that may be.
func Full(w [6]int64) api.Obj {
	return api.Obj{
		Kind:   api.KindCond,
		W:      w,
		Notify: api.Notify{Wait: 7, Told: 5, Waiters: []api.Waiter{{Ticket: 6, Task: 1}, {Ticket: 5, Task: 2}}},
		Line:   []api.Claim{{Task: 3, N: 8}, {Task: -4, N: math.MinInt64}},
	}
}

// Objects are objects of those words: one of that kind, one of another kind whose lists hold something, one that may not be.
func Objects(kind int, w [6]int64) []api.Obj {
	return []api.Obj{
		{Kind: kind, W: w},
		Full(w),
		{Kind: -1, W: w, Notify: api.Notify{Told: 9, Waiters: []api.Waiter{}}, Line: []api.Claim{}},
	}
}

// Odd is a frame of a stage, all of which holds something.
func Odd(stage int) api.Frame {
	return api.Frame{Op: -9, Stage: stage, Phase: 5, Old: 6, Since: 4, Left: 8, Awoke: true, Starve: true, Need: 2, Front: true}
}

// Frames are frames of a stage, with that Left: all else is once empty, once as it is where steps begin, and twice full.
func Frames(op, stage int, left int64) []api.Frame {
	odd := Odd(stage)
	odd.Left = left
	return []api.Frame{
		{Stage: stage, Left: left},
		{Op: op, Stage: stage, Since: -1, Left: left},
		{Op: -7, Stage: stage, Phase: 3, Old: math.MinInt64, Since: math.MaxInt64, Left: left, Awoke: true, Starve: true, Need: 5, Front: true},
		odd,
	}
}

// Others are numbers of no stage, and no phase, where there are so many.
func Others(n int) []int {
	// Of what is more, or less, by half the lower bits are those of one that there is.
	const half = 1 << (bits.UintSize / 2)
	l := []int{-1, -2, -3, -4, n, n + 1, n + 2, 2*n + 1, 100, math.MinInt, math.MinInt + 1, math.MaxInt}
	for k := range n {
		l = append(l, half+k, k-half)
	}
	return l
}

// CheckWords is Check where the answer is told, of objects of that kind and of others, of which no more than the words is changed.
func (c Call) CheckWords(t T, kind int, w [6]int64, f api.Frame, want [6]int64, g api.Frame, a api.Act) {
	t.Helper()
	for _, o := range Objects(kind, w) {
		x := Answer{O: o, F: g, A: a}
		x.O.W = want
		c.CheckRow(t, Row{O: o, F: f, Want: x})
		// What is told, and what the call must answer, are to be one thing.
		if !c.Want(o, f).Same(x) {
			t.Errorf("%s of %v with %+v: told is %+v, wanted %+v", c.Name, o, f, x, c.Want(o, f))
		}
	}
}

// CheckNothing looks whether a step does nothing, of objects of that kind and of others.
func (c Call) CheckNothing(t T, kind int, w [6]int64, f api.Frame) {
	t.Helper()
	c.CheckWords(t, kind, w, f, w, f, api.Act{})
}
