package trial

// A crowd comes to its end by fewer turns than this, and comes to be fewer crowds: where something is wrong it may go on for ever.
const (
	mostTurns  = 100000
	mostCrowds = 200000
)

// Rules are what a test knows of things that have a crowd within them: which it is, a step of a task that is ready, what holds at any time, and what holds at the end.
type Rules[C comparable] struct {
	Base  func(c *C) *Crowd
	Step  func(c *C, t T, i int, m Met)
	Look  func(c *C, t T)
	AtEnd func(c *C, t T)
}

// InAnyOrder lets the tasks of a crowd make their steps, each for a while, in an order that hangs on the seed, till all is done.
func (r Rules[C]) InAnyOrder(t T, c C, seed uint64, m Met) {
	t.Helper()
	b := r.Base(&c)
	for turns := 0; !b.Over(); turns++ {
		if !b.AnyReady() || turns > mostTurns {
			t.Fatalf("behind %d turns it doesn't go on: %+v", turns, c)
		}
		b.Now += int64(next(&seed, 2))
		i := next(&seed, b.N)
		// One goes on for a while, so that others come behind it.
		for range 1 + next(&seed, 12) {
			if !b.Ready(i) {
				break
			}
			r.Step(&c, t, i, m)
			r.Look(&c, t)
		}
	}
	r.AtEnd(&c, t)
}

// next is one of numbers without much order, below n.
func next(seed *uint64, n int) int {
	*seed = *seed*6364136223846793005 + 1442695040888963407
	return int(*seed >> 33 % uint64(n))
}

// InAllOrders goes through whatever can come of a crowd, while the clock isn't behind the latest time, and tells of how many crowds it did.
func (r Rules[C]) InAllOrders(t T, first C, latest int64, m Met) int {
	t.Helper()
	seen := map[C]struct{}{first: {}}
	left := []C{first}
	for len(left) > 0 {
		c := left[len(left)-1]
		left = left[:len(left)-1]
		if len(seen) > mostCrowds {
			t.Fatalf("it comes to no end: %+v", c)
		}
		for _, d := range r.behind(t, c, latest, m) {
			if _, ok := seen[d]; !ok {
				seen[d] = struct{}{}
				left = append(left, d)
			}
		}
	}
	return len(seen)
}

// behind is each crowd that comes of one by a step, or by a tick.
func (r Rules[C]) behind(t T, c C, latest int64, m Met) []C {
	t.Helper()
	r.Look(&c, t)
	b := r.Base(&c)
	if !b.AnyReady() {
		if !b.Over() {
			t.Fatalf("nobody goes on: %+v", c)
		}
		r.AtEnd(&c, t)
		return nil
	}
	var l []C
	for i := range b.N {
		if b.Ready(i) {
			d := c
			r.Step(&d, t, i, m)
			l = append(l, d)
		}
	}
	if b.Now < latest {
		d := c
		r.Base(&d).Now++
		l = append(l, d)
	}
	return l
}
