package trial_test

import (
	"maps"
	"slices"
	"testing"

	"torpor/api"
	"torpor/trial"
)

// need is a frame of who needs the word at a place.
func need(place int, front bool) api.Frame {
	return api.Frame{Op: 1, Need: place + 1, Front: front}
}

// P15.2, P16.2: who needs a semaphore gets it, if it has more than 0; else it is parked, at the end, or at the front.
func TestAcquire(t *testing.T) {
	m := trial.Met{}
	c := trial.NewCrowd(4, 2)
	c.W[3] = 1
	for i, front := range []bool{false, false, false, true} {
		c.Tasks[i].Frame = need(3, front)
		c.Acquire(i, m)
	}
	if c.W[3] != 0 || c.Tasks[0].Frame.Need != 0 || !c.Ready(0) || c.Ready(1) || c.Ready(2) || c.Ready(3) || c.Waiting(3) != 3 || c.Waiting(2) != 0 {
		t.Fatalf("one got it, three wait: %+v", c)
	}
	// Another word has a row of its own.
	if to := c.Give(api.Act{Give: 3}, m); to != -1 || c.W[2] != 1 || c.Waiting(3) != 3 {
		t.Fatalf("nobody waits for it: %d %+v", to, c)
	}
	var woken []int
	for range 3 {
		was := c
		if to := c.Give(api.Act{Give: 4}, m); to != -1 {
			t.Errorf("handed to %d", to)
		}
		for i := range 4 {
			if c.Ready(i) && !was.Ready(i) {
				woken = append(woken, i)
			}
		}
	}
	if !slices.Equal(woken, []int{3, 1, 2}) || c.W[3] != 3 || c.Tasks[1].Frame.Need != 4 {
		t.Errorf("woken in this order: %v; %+v", woken, c)
	}
	if want := (trial.Met{"got": 1, "parked": 3, "front": 1, "woken": 3, "given to nobody": 1}); !maps.Equal(m, want) {
		t.Errorf("met: %v", m)
	}
}

// P15.2: hand to hand, who is woken has got the semaphore.
func TestHand(t *testing.T) {
	m := trial.Met{}
	c := trial.NewCrowd(2, 1)
	c.Tasks[1].Frame = need(1, false)
	c.Acquire(1, m)
	if to := c.Give(api.Act{Give: 2, Hand: true}, m); to != 1 || c.W[1] != 0 || c.Tasks[1].Frame.Need != 0 || !c.Ready(1) || m["handed"] != 1 {
		t.Errorf("handed to %d: %+v", to, c)
	}
	if to := c.Give(api.Act{Give: 2, Hand: true}, m); to != -1 || c.W[1] != 1 {
		t.Errorf("handed to %d, and nobody waits: %+v", to, c)
	}
}

// P16.2: who needs a semaphore makes no step till it has got it; else one goes on from the frame that it has, or begins.
func TestGoing(t *testing.T) {
	m := trial.Met{}
	c := trial.NewCrowd(3, 1)
	c.W[3] = 1
	begin, later := api.Frame{Op: 5, Since: -1}, api.Frame{Op: 6, Stage: 1}
	c.Tasks[1].Frame = later
	for i, want := range []api.Frame{begin, later, begin} {
		if f, ok := c.Going(i, begin, m); f != want || !ok {
			t.Errorf("task %d: %+v %v", i, f, ok)
		}
	}
	for i := range 2 {
		c.Tasks[i].Frame = need(3, false)
		if f, ok := c.Going(i, begin, m); f != (api.Frame{}) || ok {
			t.Errorf("task %d needs a semaphore: %+v %v", i, f, ok)
		}
	}
	if !c.Ready(0) || c.Ready(1) || c.W[3] != 0 || m["got"] != 1 || m["parked"] != 1 {
		t.Errorf("one got it, one waits: %+v", c)
	}
	if f, ok := c.Going(0, begin, m); f != (api.Frame{Op: 1}) || !ok {
		t.Errorf("it got it: %+v %v", f, ok)
	}
}

// P16.2: of a step the words and the frame stay, and what it gives is given.
func TestMade(t *testing.T) {
	m := trial.Met{}
	c := trial.NewCrowd(2, 1)
	c.Tasks[1].Frame = need(2, false)
	c.Acquire(1, m)
	w, f := [6]int64{1, 2, 0, 4, 5, 6}, api.Frame{Op: 3, Stage: 2}
	c.Made(0, trial.Of(api.Obj{W: w}, f, api.Act{}), m)
	if c.W != w || c.Tasks[0].Frame != f || c.Ready(1) {
		t.Errorf("nothing is given: %+v", c)
	}
	c.Made(0, trial.Of(api.Obj{W: w}, api.Frame{}, api.Act{Done: true, Give: 3}), m)
	w[2]++
	if c.W != w || c.Tasks[0].Frame != (api.Frame{}) || !c.Ready(1) || m["woken"] != 1 {
		t.Errorf("it is given: %+v", c)
	}
}

// P15.2, P16.2: all is over when nobody has a round left.
func TestOver(t *testing.T) {
	c := trial.NewCrowd(3, 1)
	for i := range 3 {
		if c.Over() || !c.AnyReady() {
			t.Errorf("behind %d tasks: %+v", i, c)
		}
		c.Tasks[i].Rounds--
	}
	if !c.Over() || c.AnyReady() {
		t.Errorf("at the end: %+v", c)
	}
	c = trial.NewCrowd(1, 1)
	c.Tasks[0].Parked = true
	if c.Over() || c.AnyReady() {
		t.Errorf("who is parked: %+v", c)
	}
}

// P15.2, P16.2: what never came to be is told of.
func TestMet(t *testing.T) {
	m := trial.Met{"a": 1, "b": 2}
	holds(t, "right", "", func(t trial.T) { m.All(t, "a", "b") })
	holds(t, "wrong", "never met: c", func(t trial.T) { m.All(t, "a", "c") })
}

// counter is tasks that each make the word 0 more by 1, so many times; with a limit behind which something is wrong.
type counter struct {
	trial.Crowd
	limit int64
	parks bool
	ends  int64
}

func rules() trial.Rules[counter] {
	return trial.Rules[counter]{Base: (*counter).Base, Step: (*counter).step, Look: (*counter).look, AtEnd: (*counter).atEnd}
}

func (c *counter) step(t trial.T, i int, m trial.Met) {
	m["step"]++
	if c.parks && c.W[0] == 2 {
		c.Tasks[i].Parked = true
		return
	}
	c.W[0]++
	c.Tasks[i].Rounds--
}

func (c *counter) look(t trial.T) {
	if c.W[0] > c.limit {
		t.Fatalf("looked at: %d", c.W[0])
	}
}

func (c *counter) atEnd(t trial.T) {
	if c.W[0] != c.ends {
		t.Fatalf("ended at: %d", c.W[0])
	}
}

// P15.2, P16.2: in any order, and in all, each step is made, and looked at, up to the end; where nobody goes on that is told.
func TestOrders(t *testing.T) {
	for _, k := range []struct {
		name, want string
		n, rounds  int
		c          counter
	}{
		{"right", "", 3, 2, counter{limit: 6, ends: 6}},
		{"one", "", 1, 9, counter{limit: 9, ends: 9}},
		{"looked", "looked at: 4", 3, 2, counter{limit: 3, ends: 6}},
		{"the last one", "looked at: 6", 3, 2, counter{limit: 5, ends: 6}},
		{"ended", "ended at: 6", 3, 2, counter{limit: 6, ends: 5}},
		{"parked", "go on", 3, 2, counter{limit: 6, ends: 6, parks: true}},
	} {
		k.c.Crowd = trial.NewCrowd(k.n, k.rounds)
		for seed := range uint64(20) {
			m := trial.Met{}
			holds(t, k.name+", in any order", or(k.want, "go on", "doesn't go on"), func(t trial.T) { rules().InAnyOrder(t, k.c, seed, m) })
			if k.want == "" && m["step"] != k.n*k.rounds {
				t.Errorf("%s: %d steps", k.name, m["step"])
			}
		}
		holds(t, k.name+", in all orders", or(k.want, "go on", "nobody goes on"), func(t trial.T) { rules().InAllOrders(t, k.c, 0, trial.Met{}) })
	}
	// So many rounds are left of each task, and the clock is at each time.
	c := counter{Crowd: trial.NewCrowd(2, 3), limit: 6, ends: 6}
	if n := rules().InAllOrders(t, c, 0, trial.Met{}); n != 16 {
		t.Errorf("%d crowds", n)
	}
	if n := rules().InAllOrders(t, c, 2, trial.Met{}); n != 48 {
		t.Errorf("%d crowds with a clock", n)
	}
}

// P15.2, P16.2: a crowd that comes to no end is told of.
func TestNoEnd(t *testing.T) {
	c := counter{Crowd: trial.NewCrowd(1, 1<<40), limit: 1 << 40}
	holds(t, "in any order", "it doesn't go on", func(t trial.T) { rules().InAnyOrder(t, c, 1, trial.Met{}) })
	holds(t, "in all orders", "it comes to no end", func(t trial.T) { rules().InAllOrders(t, c, 0, trial.Met{}) })
}

// or is a text, but of one another one.
func or(text, of, other string) string {
	if text == of {
		return other
	}
	return text
}
