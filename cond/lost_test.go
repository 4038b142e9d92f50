package cond_test

import (
	"slices"
	"testing"

	"torpor/api"
	"torpor/mutex"
	"torpor/trial"
)

// party is tasks that have a ticket each, those from one on, and a frame that tells how far each is.
type party struct {
	scene
	from   uint32
	frames []api.Frame
	parked []int
}

// partyOf is a party to which nobody has come yet; its mutex isn't locked.
func partyOf(from uint32) *party {
	s := scene{c: condition(listOf(from, 0)), m: api.Obj{Kind: api.KindMutex}, now: 7, patience: 20}
	return &party{scene: s, from: from}
}

// step is a step of waiting of a task, and what it does to the party.
func (p *party) step(t *testing.T, i int) api.Act {
	t.Helper()
	s := p.scene
	s.task = i
	x := s.await(p.frames[i])
	if x.a.Fault != api.NoFault || x.a.Give != 0 || len(x.a.Wake) != 0 {
		t.Fatalf("task %d: %+v, of %+v", i, x, p)
	}
	p.c, p.m, p.frames[i] = x.c, x.m, x.f
	return x.a
}

// come lets one task more lock the mutex, and take a ticket.
func (p *party) come(t *testing.T) {
	t.Helper()
	m, _, a := mutex.Lock(p.m, mutex.Begin(api.OpLock), p.now, p.patience)
	if !a.Done {
		t.Fatalf("it is locked: %+v", p)
	}
	p.m = m
	i := len(p.frames)
	p.frames = append(p.frames, begin())
	if a := p.step(t, i); !trial.SameAct(a, api.Act{}) || p.frames[i].Left != int64(p.from+uint32(i)) || !mutex.Locked(p.m) {
		t.Fatalf("task %d takes a ticket: %+v %+v", i, a, p)
	}
}

// letGo lets a task unlock the mutex: it keeps its ticket, and doesn't wait yet.
func (p *party) letGo(t *testing.T, i int) {
	t.Helper()
	if a := p.step(t, i); !trial.SameAct(a, api.Act{}) || p.frames[i].Stage != 2 || mutex.Locked(p.m) {
		t.Fatalf("task %d unlocks the mutex: %+v %+v", i, a, p)
	}
}

// park lets a task wait that isn't told.
func (p *party) park(t *testing.T, i int) {
	t.Helper()
	if a := p.step(t, i); !trial.SameAct(a, api.Act{Park: true}) || p.frames[i].Stage != 3 {
		t.Fatalf("task %d waits: %+v %+v", i, a, p)
	}
	p.parked = append(p.parked, i)
}

// goOn lets a task make its steps that is told, up to its end, and unlock the mutex: it never waits.
func (p *party) goOn(t *testing.T, i int) {
	t.Helper()
	if p.frames[i].Stage == 1 {
		p.letGo(t, i)
	}
	for range 3 {
		a := p.step(t, i)
		if a.Park {
			t.Fatalf("task %d is told, and waits: %+v", i, p)
		}
		if !a.Done {
			continue
		}
		m, _, a := mutex.Unlock(p.m, mutex.Begin(api.OpUnlock))
		if !a.Done || p.frames[i] != (api.Frame{}) {
			t.Fatalf("task %d went on: %+v %+v", i, a, p)
		}
		p.m = m
		return
	}
	t.Fatalf("task %d doesn't go on: %+v", i, p)
}

// tell lets all be told, or one, and looks whether those are woken.
func (p *party) tell(t *testing.T, c trial.Call, want []int) {
	t.Helper()
	x := c.Step(p.c, api.Frame{})
	if !trial.SameAct(x.A, api.Act{Done: true, Wake: want}) {
		t.Fatalf("%s of %+v: %+v, not %v", c.Name, p, x.A, want)
	}
	p.c = x.O
	p.parked = slices.DeleteFunc(p.parked, func(i int) bool { return slices.Contains(want, i) })
}

// shuffled are numbers below n, in an order that hangs on the seed.
func shuffled(n int, seed *uint64) []int {
	l := make([]int, n)
	for i := range n {
		*seed = *seed*6364136223846793005 + 1442695040888963407
		k := int(*seed >> 33 % uint64(i+1))
		l[i], l[k] = l[k], i
	}
	return l
}

// gather is a party to which so many have come: those whose bit is set wait already, as they came by in any order; the others have a ticket only. The last one has the mutex still, if it is said so.
func gather(t *testing.T, from uint32, n int, wait uint64, keeps bool, seed *uint64) *party {
	t.Helper()
	p := partyOf(from)
	for i := range n {
		p.come(t)
		if i < n-1 || !keeps {
			p.letGo(t, i)
		}
	}
	for _, i := range shuffled(n, seed) {
		if wait>>i&1 == 1 && p.frames[i].Stage == 2 {
			p.park(t, i)
		}
	}
	return p
}

// going is an order in which those of a party may go on: ahead of all others who has the mutex still.
func (p *party) going(seed *uint64) []int {
	l := shuffled(len(p.frames), seed)
	slices.SortStableFunc(l, func(a, b int) int {
		has := func(i int) int { return max(0, 2-p.frames[i].Stage) }
		return has(b) - has(a)
	})
	return l
}

// P19.2: whoever has a ticket when all are told goes on: who waits is woken, as they came, who doesn't wait yet never does, and who has the mutex still doesn't, either; in any order, from any ticket on.
func TestNoneIsLost(t *testing.T) {
	seed := uint64(5)
	for _, from := range append(froms(), 1<<31-5, greatest-5) {
		for n := 1; n <= 12; n++ {
			for k := range uint64(24) {
				wait := seed >> 20
				if k < 2 {
					// Nobody waits, or all do.
					wait = -k
				}
				p := gather(t, from, n, wait, k%3 == 2, &seed)
				p.tell(t, all(), slices.Clone(p.parked))
				if !trial.SameObj(p.c, condition(listOf(from+uint32(n), 0))) {
					t.Fatalf("all are told: %+v", p)
				}
				for _, i := range p.going(&seed) {
					p.goOn(t, i)
				}
				if p.m.W != [6]int64{} {
					t.Fatalf("all went on: %+v", p)
				}
				// Who comes now has a ticket that isn't told.
				p.come(t)
				p.letGo(t, n)
				p.park(t, n)
				p.tell(t, all(), []int{n})
				p.goOn(t, n)
			}
		}
	}
}

// P19.2: where one is told it is who has the first ticket, whether it waits already or not; nobody else is, till all are.
func TestInTurn(t *testing.T) {
	seed := uint64(9)
	for _, from := range append(froms(), 1<<31-5, greatest-5) {
		for n := 1; n <= 12; n++ {
			for told := range n + 1 {
				p := gather(t, from, n, seed>>20, told%3 == 2, &seed)
				for i := range told {
					var wake []int
					if slices.Contains(p.parked, i) {
						wake = []int{i}
					}
					p.tell(t, signal(), wake)
				}
				for _, i := range p.going(&seed) {
					switch {
					case i < told:
						p.goOn(t, i)
					case p.frames[i].Stage == 1:
						p.letGo(t, i)
					}
				}
				for i := told; i < n; i++ {
					if p.frames[i].Stage == 2 {
						p.park(t, i)
					}
				}
				p.tell(t, all(), slices.Clone(p.parked))
				for i := told; i < n; i++ {
					p.goOn(t, i)
				}
				// Nobody has a ticket any more.
				p.tell(t, signal(), nil)
				p.tell(t, all(), nil)
				if !trial.SameObj(p.c, condition(listOf(from+uint32(n), 0))) || p.m.W != [6]int64{} {
					t.Fatalf("all went on: %+v", p)
				}
			}
		}
	}
}

// P19.1, P19.2: where the mutex isn't locked who waits is at fault, and waits no more; its ticket stays out, and is told in its turn, as that of one who doesn't come.
func TestTicketStaysOut(t *testing.T) {
	for _, from := range froms() {
		s := scene{c: condition(listOf(from, 0)), m: api.Obj{Kind: api.KindMutex}, task: 3}
		x := s.await(begin())
		s.c = x.c
		s.checkTold(t, x.f, of(condition(listOf(from, 1)), s.m, api.Frame{}, api.Act{Fault: api.FaultUnlock}))
		p := partyOf(from + 1)
		p.c = s.c
		p.come(t)
		p.letGo(t, 0)
		p.park(t, 0)
		p.tell(t, signal(), nil)
		p.tell(t, signal(), []int{0})
		p.goOn(t, 0)
	}
}

// P19.2: who has got no room for a ticket has none, and unlocks nothing; when one is told there is room again.
func TestRoomAgain(t *testing.T) {
	for _, from := range froms() {
		s := sceneOf(listOf(from, 1000), 1)
		s.checkRoom(t, begin())
		s.c = signal().Step(s.c, api.Frame{}).O
		g := begin()
		g.Stage, g.Left = 1, int64(from+1000)
		s.checkTold(t, begin(), of(with(s.c, listOf(from+1, 1000)), s.m, g, api.Act{}))
	}
}
