package trial_test

import (
	"math"
	"slices"
	"testing"

	"torpor/api"
	"torpor/trial"
)

// P15.1, P16.1: objects are of the words that are told, with lists and without, each time new ones.
func TestObjects(t *testing.T) {
	w := [6]int64{1, -2, 3, -4, 5, -6}
	l := append(trial.Objects(api.KindRW, w), trial.Full(w))
	for i, o := range l {
		if o.W != w {
			t.Errorf("object %d: %v", i, o)
		}
	}
	if len(l) != 4 || l[0].Kind != api.KindRW || !trial.SameObj(l[0], api.Obj{Kind: api.KindRW, W: w}) || l[2].Kind != -1 || !trial.SameObj(l[1], l[3]) {
		t.Errorf("objects: %v", l)
	}
	if len(l[3].Notify.Waiters) == 0 || len(l[3].Line) == 0 || l[3].Kind == api.KindRW {
		t.Errorf("a full one: %v", l[3])
	}
	trial.Apart(t, "Objects", append(l, trial.Objects(0, w)...))
}

// P15.1, P16.1: frames are of the stage, and the Left, that are told; in one nothing else is set, in others all is.
func TestFrames(t *testing.T) {
	for stage := -1; stage < 3; stage++ {
		for _, left := range []int64{0, 1, math.MinInt64} {
			l := trial.Frames(30, stage, left)
			want := []api.Frame{{Stage: stage, Left: left}, {Op: 30, Stage: stage, Since: -1, Left: left}}
			if len(l) != 4 || !slices.Equal(l[:2], want) {
				t.Errorf("frames of %d, %d: %+v", stage, left, l)
			}
			for _, f := range append(l[2:], trial.Odd(stage)) {
				if f.Op == 0 || f.Stage != stage || f.Phase == 0 || f.Old == 0 || f.Since == 0 || !f.Awoke || !f.Starve || f.Need == 0 || !f.Front {
					t.Errorf("a full frame of %d: %+v", stage, f)
				}
			}
			if l[2].Left != left || l[3].Left != left || trial.Odd(stage).Left == 0 {
				t.Errorf("full frames with %d: %+v", left, l[2:])
			}
		}
	}
}

// P15.1, P16.1: others are below 0, and from the first one on that isn't there.
func TestOthers(t *testing.T) {
	for n := range 6 {
		l := trial.Others(n)
		for _, k := range l {
			if 0 <= k && k < n {
				t.Errorf("%d of %d", k, n)
			}
		}
		for _, k := range []int{-1, n, n + 1, math.MinInt, math.MaxInt} {
			if !slices.Contains(l, k) {
				t.Errorf("no %d of %d", k, n)
			}
		}
	}
}

// P15.1, P16.1: a step that isn't as it is told is told of, whatever the object is; so is one that is told wrongly.
func TestCheckWords(t *testing.T) {
	first, second := [6]int64{1}, [6]int64{2}
	f, g := api.Frame{Op: 1}, api.Frame{Op: 1, Stage: 1}
	more := func(o api.Obj, _ api.Frame) trial.Answer {
		o = own(o)
		o.W[0]++
		return trial.Answer{O: o, F: g, A: api.Act{Give: 1}}
	}
	still := func(o api.Obj, f api.Frame) trial.Answer {
		return trial.Answer{O: own(o), F: f}
	}
	onlyOf := func(kind int) func(o api.Obj, f api.Frame) trial.Answer {
		return func(o api.Obj, f api.Frame) trial.Answer {
			if o.Kind == kind {
				return still(o, f)
			}
			return more(o, f)
		}
	}
	for _, k := range []struct {
		name, want string
		call       trial.Call
		w          [6]int64
		g          api.Frame
		a          api.Act
	}{
		{"right", "", trial.Call{Step: more, Want: more}, second, g, api.Act{Give: 1}},
		{"words", "not {", trial.Call{Step: more, Want: more}, first, g, api.Act{Give: 1}},
		{"frame", "not {", trial.Call{Step: more, Want: more}, second, f, api.Act{Give: 1}},
		{"act", "not {", trial.Call{Step: more, Want: more}, second, g, api.Act{}},
		{"step", "not {", trial.Call{Step: still, Want: more}, second, g, api.Act{Give: 1}},
		{"told", "told is", trial.Call{Step: more, Want: still}, second, g, api.Act{Give: 1}},
		{"of its kind", "not {", trial.Call{Step: onlyOf(api.KindRW), Want: more}, second, g, api.Act{Give: 1}},
		{"of another kind", "not {", trial.Call{Step: onlyOf(api.KindCond), Want: more}, second, g, api.Act{Give: 1}},
		{"of none", "not {", trial.Call{Step: onlyOf(-1), Want: more}, second, g, api.Act{Give: 1}},
	} {
		holds(t, k.name, k.want, func(t trial.T) { k.call.CheckWords(t, api.KindRW, first, f, k.w, k.g, k.a) })
	}
	holds(t, "nothing", "", func(t trial.T) { trial.Call{Step: still, Want: still}.CheckNothing(t, api.KindRW, first, f) })
	holds(t, "something", "not {", func(t trial.T) { trial.Call{Step: more, Want: still}.CheckNothing(t, api.KindRW, first, f) })
}
