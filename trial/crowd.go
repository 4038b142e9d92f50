package trial

import "torpor/api"

// Most is how many tasks a crowd has at most.
const Most = 6

// Worker is a task of a crowd: how far it is with what it does, and how often it does that still.
type Worker struct {
	Frame  api.Frame
	Rounds int
	Parked bool
}

// row is who waits for a semaphore, the first one first.
type row struct {
	tasks [Most]int8
	n     int8
}

// Crowd is tasks with the words of one object, of which each may be a semaphore: a number, and a row of who waits for it. It has no lists, so that crowds are held against each other as a whole.
type Crowd struct {
	W     [6]int64
	Now   int64
	N     int
	Tasks [Most]Worker
	rows  [6]row
}

// NewCrowd is so many tasks with so many rounds each.
func NewCrowd(n, rounds int) Crowd {
	c := Crowd{N: n}
	for i := range n {
		c.Tasks[i].Rounds = rounds
	}
	return c
}

// Base is the crowd of whatever has one within it.
func (c *Crowd) Base() *Crowd {
	return c
}

// Ready: can a task make a step?
func (c *Crowd) Ready(i int) bool {
	return !c.Tasks[i].Parked && c.Tasks[i].Rounds > 0
}

// AnyReady: can one of them?
func (c *Crowd) AnyReady() bool {
	for i := range c.N {
		if c.Ready(i) {
			return true
		}
	}
	return false
}

// Over: is all done?
func (c *Crowd) Over() bool {
	for i := range c.N {
		if c.Tasks[i].Rounds > 0 {
			return false
		}
	}
	return true
}

// Waiting is how many wait for the word at a place.
func (c *Crowd) Waiting(place int) int {
	return int(c.rows[place].n)
}

// Going is how far a task is that makes a step: with the frame that it has, or, if that is empty, with the one with which it begins. Where it needs a semaphore it makes none, but gets that, or is parked.
func (c *Crowd) Going(i int, begin api.Frame, m Met) (api.Frame, bool) {
	f := c.Tasks[i].Frame
	if f.Need != 0 {
		c.Acquire(i, m)
		return api.Frame{}, false
	}
	if f == (api.Frame{}) {
		return begin, true
	}
	return f, true
}

// Made is what comes of a task's step: the words, its frame, and what is given.
func (c *Crowd) Made(i int, x Answer, m Met) {
	c.W, c.Tasks[i].Frame = x.O.W, x.F
	if x.A.Give != 0 {
		c.Give(x.A, m)
	}
}

// Acquire: a task gets the semaphore that it needs, or is parked.
func (c *Crowd) Acquire(i int, m Met) {
	w := &c.Tasks[i]
	place := w.Frame.Need - 1
	if c.W[place] > 0 {
		c.W[place]--
		w.Frame.Need = 0
		m["got"]++
		return
	}
	w.Parked = true
	m["parked"]++
	r := &c.rows[place]
	at := r.n
	if w.Frame.Front {
		at = 0
		m["front"]++
	}
	copy(r.tasks[at+1:], r.tasks[at:r.n])
	r.tasks[at] = int8(i)
	r.n++
}

// Give is what comes of an act that gives a semaphore: that has one more, and the first one that waits for it is woken; hand to hand, it has got that already. It tells to whom it was handed; -1: to nobody.
func (c *Crowd) Give(a api.Act, m Met) int {
	place := a.Give - 1
	c.W[place]++
	r := &c.rows[place]
	if r.n == 0 {
		m["given to nobody"]++
		return -1
	}
	first := int(r.tasks[0])
	copy(r.tasks[:], r.tasks[1:r.n])
	r.n--
	r.tasks[r.n] = 0
	c.Tasks[first].Parked = false
	m["woken"]++
	if !a.Hand {
		return -1
	}
	c.Tasks[first].Frame.Need = 0
	c.W[place]--
	m["handed"]++
	return first
}

// Met is what came to be, and how often.
type Met map[string]int

// All looks whether each of these came to be.
func (m Met) All(t T, what ...string) {
	t.Helper()
	for _, k := range what {
		if m[k] == 0 {
			t.Errorf("never met: %s", k)
		}
	}
}
