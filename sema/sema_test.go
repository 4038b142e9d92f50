package sema_test

import (
	"math"
	"slices"
	"testing"

	"torpor/api"
	"torpor/arena"
	"torpor/queue"
	"torpor/sema"
	"torpor/treap"
)

// nobody is the empty queue.
var nobody = api.Queue{Head: -1, Tail: -1}

// freeRec is a free record that leads to another one.
func freeRec(next int) api.Rec {
	return api.Rec{Key: -1, Task: -1, Next: next}
}

// rec is one that isn't free.
func rec(key, task, next int) api.Rec {
	return api.Rec{Key: key, Task: task, Next: next}
}

// freeNode is a free node that leads to another one.
func freeNode(next int) api.Node {
	return api.Node{Key: -1, Left: next, Right: -1, Queue: nobody}
}

// node is one that isn't free, below which nothing lies.
func node(key int, prio uint32, head, tail int) api.Node {
	return api.Node{Key: key, Prio: prio, Left: -1, Right: -1, Queue: api.Queue{Head: head, Tail: tail}}
}

func arenaOf(free int, recs ...api.Rec) api.Arena {
	return api.Arena{Recs: recs, Free: free}
}

func treapOf(root, free int, nodes ...api.Node) api.Treap {
	return api.Treap{Nodes: nodes, Root: root, Free: free}
}

func same(a, b api.Table) bool {
	return a.Arena.Free == b.Arena.Free && slices.Equal(a.Arena.Recs, b.Arena.Recs) &&
		a.Treap.Root == b.Treap.Root && a.Treap.Free == b.Treap.Free && slices.Equal(a.Treap.Nodes, b.Treap.Nodes)
}

func cloned(t api.Table) api.Table {
	t.Arena.Recs = slices.Clone(t.Arena.Recs)
	t.Treap.Nodes = slices.Clone(t.Treap.Nodes)
	return t
}

// taken are the places of the nodes that aren't free, their keys rising.
func taken(x api.Treap) []int {
	var places []int
	for i, n := range x.Nodes {
		if n.Key >= 0 {
			places = append(places, i)
		}
	}
	slices.SortFunc(places, func(i, k int) int {
		if x.Nodes[i].Key < x.Nodes[k].Key {
			return -1
		}
		return 1
	})
	return places
}

// wantRight is what Right must answer, by the chapter's words: each of them asked by itself.
func wantRight(t api.Table) bool {
	if !arena.Right(t.Arena) || !treap.Right(t.Treap) {
		return false
	}
	var rows [][]int
	for _, k := range taken(t.Treap) {
		n := t.Treap.Nodes[k]
		if !queue.Right(t.Arena, n.Queue) || n.Queue == nobody {
			return false
		}
		row := queue.Places(t.Arena, n.Queue)
		if slices.ContainsFunc(row, func(i int) bool { return t.Arena.Recs[i].Key != n.Key }) {
			return false
		}
		rows = append(rows, row)
	}
	free := arena.Free(t.Arena)
	for i, r := range t.Arena.Recs {
		if slices.Contains(free, i) {
			continue
		}
		of := slices.DeleteFunc(slices.Clone(rows), func(row []int) bool { return !slices.Contains(row, i) })
		if len(of) != 1 {
			return false
		}
		for k, s := range t.Arena.Recs {
			if k != i && s.Task == r.Task {
				return false
			}
		}
	}
	return true
}

// at: the place of a key's node; -1.
func at(t api.Table, key int) int {
	for _, i := range taken(t.Treap) {
		if t.Treap.Nodes[i].Key == key {
			return i
		}
	}
	return -1
}

// row: the places of those who wait for a key, in order.
func row(t api.Table, key int) []int {
	var places []int
	if k := at(t, key); k >= 0 {
		for i := t.Treap.Nodes[k].Queue.Head; i != -1; i = t.Arena.Recs[i].Next {
			places = append(places, i)
		}
	}
	return places
}

// wantWaits is what Waits must answer, by the chapter's words.
func wantWaits(t api.Table, key int) []int {
	var tasks []int
	if wantRight(t) {
		for _, i := range row(t, key) {
			tasks = append(tasks, t.Arena.Recs[i].Task)
		}
	}
	return tasks
}

// wantWhere is what Where must answer, by the chapter's words.
func wantWhere(t api.Table, task int) int {
	if wantRight(t) {
		for _, k := range taken(t.Treap) {
			if key := t.Treap.Nodes[k].Key; slices.Contains(wantWaits(t, key), task) {
				return key
			}
		}
	}
	return -1
}

// top lays the one tree that there is of the nodes at these places, their keys rising; its top.
func top(x *api.Treap, places []int) int {
	if len(places) == 0 {
		return -1
	}
	best := 0
	for k, i := range places {
		// The keys rise: of those of one priority the first one is on top.
		if x.Nodes[i].Prio < x.Nodes[places[best]].Prio {
			best = k
		}
	}
	n := &x.Nodes[places[best]]
	n.Left, n.Right = top(x, places[:best]), top(x, places[best+1:])
	return places[best]
}

// setRow makes the records at these places the row of a key; its node goes, where it has none of them.
func setRow(t *api.Table, key int, places []int) {
	n := &t.Treap.Nodes[at(*t, key)]
	if len(places) == 0 {
		i := at(*t, key)
		*n = freeNode(t.Treap.Free)
		t.Treap.Free = i
	} else {
		n.Queue = api.Queue{Head: places[0], Tail: places[len(places)-1]}
		for k, i := range places {
			t.Arena.Recs[i].Next = append(places, -1)[k+1]
		}
	}
	t.Treap.Root = top(&t.Treap, taken(t.Treap))
}

// answer is all that a call may answer; calls with fewer results leave the others 0.
type answer struct {
	t    api.Table
	task int
	e    api.Errno
}

// wantPark is what Park must answer, by the chapter's words.
func wantPark(t api.Table, key, task int, front bool, prio uint32) answer {
	has := at(t, key) >= 0
	switch {
	case !wantRight(t) || key < 0 || task < 0:
		return answer{t, 0, api.ErrArg}
	case wantWhere(t, task) >= 0:
		return answer{t, 0, api.ErrThere}
	case t.Arena.Free == -1 || !has && t.Treap.Free == -1:
		return answer{t, 0, api.ErrFull}
	}
	u, i := cloned(t), t.Arena.Free
	u.Arena.Free = t.Arena.Recs[i].Next
	u.Arena.Recs[i] = rec(key, task, -1)
	if !has {
		k := t.Treap.Free
		u.Treap.Free = t.Treap.Nodes[k].Left
		u.Treap.Nodes[k] = node(key, prio, -1, -1)
	}
	places := row(t, key)
	if front {
		places = append([]int{i}, places...)
	} else {
		places = append(places, i)
	}
	setRow(&u, key, places)
	return answer{u, 0, api.OK}
}

// wantWithout is the table in which a task that waits for a key does so no more.
func wantWithout(t api.Table, key, task int) api.Table {
	u, places := cloned(t), row(t, key)
	k := slices.IndexFunc(places, func(i int) bool { return t.Arena.Recs[i].Task == task })
	i := places[k]
	u.Arena.Recs[i] = freeRec(t.Arena.Free)
	u.Arena.Free = i
	setRow(&u, key, slices.Delete(slices.Clone(places), k, k+1))
	return u
}

// wantWake is what Wake must answer, by the chapter's words.
func wantWake(t api.Table, key int) answer {
	waits := wantWaits(t, key)
	switch {
	case !wantRight(t):
		return answer{t, 0, api.ErrArg}
	case len(waits) == 0:
		return answer{t, 0, api.ErrNone}
	}
	return answer{wantWithout(t, key, waits[0]), waits[0], api.OK}
}

// wantCancel is what Cancel must answer, by the chapter's words.
func wantCancel(t api.Table, task int) answer {
	key := wantWhere(t, task)
	switch {
	case !wantRight(t):
		return answer{t, 0, api.ErrArg}
	case key < 0:
		return answer{t, 0, api.ErrNone}
	}
	return answer{wantWithout(t, key, task), 0, api.OK}
}

// wantNormal is what Normal must answer, by the chapter's words.
func wantNormal(t api.Table) api.Table {
	var m api.Table
	if !wantRight(t) {
		return m
	}
	var nodes []int
	for k, from := range taken(t.Treap) {
		n := t.Treap.Nodes[from]
		begin := len(m.Arena.Recs)
		for _, task := range wantWaits(t, n.Key) {
			m.Arena.Recs = append(m.Arena.Recs, rec(n.Key, task, len(m.Arena.Recs)+1))
		}
		end := len(m.Arena.Recs) - 1
		m.Arena.Recs[end].Next = -1
		m.Treap.Nodes = append(m.Treap.Nodes, node(n.Key, n.Prio, begin, end))
		nodes = append(nodes, k)
	}
	m.Treap.Root = top(&m.Treap, nodes)
	m.Arena.Free, m.Treap.Free = -1, -1
	for i := len(t.Arena.Recs) - 1; i >= len(m.Arena.Recs); i-- {
		m.Arena.Free = i
	}
	for i := len(t.Treap.Nodes) - 1; i >= len(nodes); i-- {
		m.Treap.Free = i
	}
	for i := len(m.Arena.Recs) + 1; i <= len(t.Arena.Recs); i++ {
		m.Arena.Recs = append(m.Arena.Recs, freeRec(nextOf(i, len(t.Arena.Recs))))
	}
	for i := len(nodes) + 1; i <= len(t.Treap.Nodes); i++ {
		m.Treap.Nodes = append(m.Treap.Nodes, freeNode(nextOf(i, len(t.Treap.Nodes))))
	}
	return m
}

// nextOf is a place, if there is one of so many; else none.
func nextOf(i, n int) int {
	if i < n {
		return i
	}
	return -1
}

// given is a table with spare room behind its lists, and how these were when it was made.
type given struct {
	t     api.Table
	recs  []api.Rec
	nodes []api.Node
}

func give(t api.Table) given {
	recs := append(slices.Clone(t.Arena.Recs), rec(77, 78, 79), freeRec(0), freeRec(-1))
	nodes := append(slices.Clone(t.Treap.Nodes), node(77, 78, 79, 80), freeNode(0), freeNode(-1))
	g := given{t, slices.Clone(recs), slices.Clone(nodes)}
	g.t.Arena.Recs, g.t.Treap.Nodes = recs[:len(t.Arena.Recs)], nodes[:len(t.Treap.Nodes)]
	return g
}

// unchanged looks whether what was handed in is as it was.
func (g given) unchanged(t *testing.T, call string) {
	t.Helper()
	if !slices.Equal(g.t.Arena.Recs[:len(g.recs)], g.recs) || !slices.Equal(g.t.Treap.Nodes[:len(g.nodes)], g.nodes) {
		t.Errorf("%s changes what was handed in: %v", call, g.t)
	}
}

// apart looks whether what was handed in, and an answer, are each changed with the other one.
func (g given) apart(t *testing.T, call string, got api.Table) {
	t.Helper()
	was := cloned(got)
	clear(g.t.Arena.Recs[:len(g.recs)])
	clear(g.t.Treap.Nodes[:len(g.nodes)])
	if !same(got, was) {
		t.Errorf("%s: the answer is changed with what was handed in", call)
	}
	copy(g.t.Arena.Recs[:len(g.recs)], g.recs)
	copy(g.t.Treap.Nodes[:len(g.nodes)], g.nodes)
	clear(got.Arena.Recs)
	clear(got.Treap.Nodes)
	// An answer's spare room is its own, too.
	_, _ = append(got.Arena.Recs, rec(97, 97, 97)), append(got.Treap.Nodes, node(97, 97, 97, 97))
	g.unchanged(t, call+"'s answer, when it is written to,")
}

// check holds an answer against the one that must be.
func (g given) check(t *testing.T, call string, got, want answer) {
	t.Helper()
	if !same(got.t, want.t) || got.task != want.task || got.e != want.e {
		t.Errorf("%s of %v: %v, not %v", call, g.t, got, want)
	}
	g.unchanged(t, call)
	g.apart(t, call, got.t)
}

func checkPark(t *testing.T, x api.Table, key, task int, front bool, prio uint32) {
	t.Helper()
	g := give(x)
	y, e := sema.Park(g.t, key, task, front, prio)
	g.check(t, "Park", answer{y, 0, e}, wantPark(x, key, task, front, prio))
}

func checkWake(t *testing.T, x api.Table, key int) {
	t.Helper()
	g := give(x)
	y, task, e := sema.Wake(g.t, key)
	g.check(t, "Wake", answer{y, task, e}, wantWake(x, key))
}

func checkCancel(t *testing.T, x api.Table, task int) {
	t.Helper()
	g := give(x)
	y, e := sema.Cancel(g.t, task)
	g.check(t, "Cancel", answer{y, 0, e}, wantCancel(x, task))
}

func checkNormal(t *testing.T, x api.Table) {
	t.Helper()
	g := give(x)
	g.check(t, "Normal", answer{t: sema.Normal(g.t)}, answer{t: wantNormal(x)})
}

func checkRight(t *testing.T, x api.Table) {
	t.Helper()
	g := give(x)
	if got := sema.Right(g.t); got != wantRight(x) {
		t.Errorf("Right(%v) = %v", x, got)
	}
	g.unchanged(t, "Right")
}

// checkCalls holds each call of a table against the chapter's words, for keys and tasks that it has and for others.
func checkCalls(t *testing.T, x api.Table, keys, tasks []int) {
	t.Helper()
	checkRight(t, x)
	checkNormal(t, x)
	g := give(x)
	for _, key := range keys {
		if got, want := sema.Waits(g.t, key), wantWaits(x, key); !slices.Equal(got, want) {
			t.Errorf("Waits(%v, %d) = %v, not %v", x, key, got, want)
		}
		g.unchanged(t, "Waits")
		checkWake(t, x, key)
		for k, task := range tasks {
			checkPark(t, x, key, task, k%2 == 0, uint32(k))
			checkPark(t, x, key, task, k%2 == 1, math.MaxUint32)
		}
	}
	for _, task := range tasks {
		if got, want := sema.Where(g.t, task), wantWhere(x, task); got != want {
			t.Errorf("Where(%v, %d) = %d, not %d", x, task, got, want)
		}
		g.unchanged(t, "Where")
		checkCancel(t, x, task)
	}
}

// checkRefused looks whether each call refuses a table that may not be; so, too, where other errors apply.
func checkRefused(t *testing.T, what string, x api.Table) {
	t.Helper()
	if sema.Right(x) {
		t.Errorf("%s: it may not be", what)
	}
	for _, key := range []int{10, 20, 30, 0, -1} {
		if l := sema.Waits(x, key); len(l) != 0 {
			t.Errorf("%s: Waits: %v", what, l)
		}
		if y, task, e := sema.Wake(x, key); e != api.ErrArg || task != 0 || !same(y, x) {
			t.Errorf("%s: Wake: %v, %d, %d", what, y, task, int(e))
		}
		for _, task := range []int{1, 5, 99, -1} {
			if y, e := sema.Park(x, key, task, true, 1); e != api.ErrArg || !same(y, x) {
				t.Errorf("%s: Park: %v, %d", what, y, int(e))
			}
		}
	}
	for _, task := range []int{1, 5, 99, 0, -1} {
		if key := sema.Where(x, task); key != -1 {
			t.Errorf("%s: Where: %d", what, key)
		}
		if y, e := sema.Cancel(x, task); e != api.ErrArg || !same(y, x) {
			t.Errorf("%s: Cancel: %v, %d", what, y, int(e))
		}
	}
	if y := sema.Normal(x); !same(y, api.Table{}) {
		t.Errorf("%s: Normal: %v", what, y)
	}
}

// made is a table of so many records and nodes, all free.
func made(t *testing.T, recs, nodes int) api.Table {
	t.Helper()
	a, e := arena.Make(recs)
	x, f := treap.Make(nodes)
	if e != api.OK || f != api.OK {
		t.Fatalf("a table of %d, %d: %d, %d", recs, nodes, int(e), int(f))
	}
	return api.Table{Arena: a, Treap: x}
}

// parked is a table in which some more tasks wait for a key, whose node has the key as its priority, if it comes.
func parked(t *testing.T, x api.Table, key int, tasks ...int) api.Table {
	t.Helper()
	for _, task := range tasks {
		var e api.Errno
		if x, e = sema.Park(x, key, task, false, uint32(key)); e != api.OK {
			t.Fatalf("Park of %d for %d: %d", task, key, int(e))
		}
	}
	return x
}

// five is a table written out: 5, 1 and 3 wait for 30, 2 for 10, 4 for 20; a record is free, and three nodes are.
func five() api.Table {
	twenty := node(20, 3, 3, 3)
	twenty.Left, twenty.Right = 1, 0
	return api.Table{
		Arena: arenaOf(5, rec(30, 1, 2), rec(10, 2, -1), rec(30, 3, -1), rec(20, 4, -1), rec(30, 5, 0), freeRec(-1)),
		Treap: treapOf(2, 5, node(30, 9, 4, 2), node(10, 7, 1, 1), twenty, freeNode(-1), freeNode(3), freeNode(4)),
	}
}

// step is the next one of numbers without much order, the same ones each time.
func step(x *uint32, n int) int {
	*x = *x*1664525 + 1013904223
	return int(*x>>16) % n
}

// P10.1: Make of numbers from 0 to 64, and of others.
func TestMake(t *testing.T) {
	for _, n := range []int{-1, -2, 65, 66, 1000, math.MaxInt, math.MinInt} {
		if x, e := sema.Make(n); e != api.ErrArg || !same(x, api.Table{}) {
			t.Errorf("Make(%d) = %v, %d", n, x, int(e))
		}
	}
	for n := range 65 {
		x, e := sema.Make(n)
		if e != api.OK || !same(x, made(t, n, n)) || !sema.Right(x) || len(arena.Free(x.Arena)) != n {
			t.Errorf("Make(%d) = %v, %d", n, x, int(e))
		}
		for i, r := range x.Arena.Recs {
			if r != freeRec(nextOf(i+1, n)) || x.Treap.Nodes[i] != freeNode(nextOf(i+1, n)) {
				t.Errorf("Make(%d) = %v", n, x)
			}
		}
	}
	one, _ := sema.Make(1)
	two, _ := sema.Make(1)
	clear(one.Arena.Recs)
	clear(one.Treap.Nodes)
	if !same(two, made(t, 1, 1)) {
		t.Error("one answer is changed with another one:", two)
	}
}

// P10.1: which tables may be, written out; all calls of those that may not are refused, and answer them as they were.
func TestRightWrittenOut(t *testing.T) {
	for _, x := range []api.Table{five(), made(t, 0, 0), made(t, 0, 64), made(t, 64, 0), made(t, 3, 2),
		{Arena: arenaOf(-1, rec(0, 0, -1)), Treap: treapOf(0, -1, node(0, 0, 0, 0))},
		{Arena: arenaOf(-1, rec(math.MaxInt, math.MaxInt, -1)), Treap: treapOf(0, -1, node(math.MaxInt, math.MaxUint32, 0, 0))},
		{Arena: arenaOf(-1, rec(4, 1, 1), rec(4, 0, -1)), Treap: treapOf(0, 1, node(4, 0, 0, 1), freeNode(-1))},
		{Arena: arenaOf(-1, rec(4, 1, -1), rec(4, 0, 0)), Treap: treapOf(0, -1, node(4, 0, 1, 0))},
	} {
		if !wantRight(x) || !sema.Right(x) {
			t.Errorf("%v may be", x)
		}
		checkCalls(t, x, []int{0, 4, 10, 20, 30, 40, -1, math.MaxInt, math.MinInt}, []int{0, 1, 2, 3, 4, 5, 9, -1, math.MaxInt, math.MinInt})
	}
	for what, change := range map[string]func(x *api.Table){
		"zero":                         func(x *api.Table) { *x = api.Table{} },
		"of the zero arena":            func(x *api.Table) { *x = made(t, 0, 0); x.Arena = api.Arena{} },
		"of the zero treap":            func(x *api.Table) { *x = made(t, 0, 0); x.Treap = api.Treap{} },
		"of 65 records":                func(x *api.Table) { x.Arena.Recs = append(x.Arena.Recs, made(t, 59, 0).Arena.Recs...) },
		"of 65 free records":           func(x *api.Table) { *x = made(t, 0, 0); x.Arena = manyFree(65) },
		"of 65 free nodes":             func(x *api.Table) { *x = made(t, 0, 0); x.Treap = manyFreeNodes(65) },
		"free where a task waits":      func(x *api.Table) { x.Arena.Free = 0 },
		"free behind the last place":   func(x *api.Table) { x.Arena.Free = 6 },
		"free below -1":                func(x *api.Table) { x.Arena.Free = -2 },
		"free, and not of the list":    func(x *api.Table) { x.Arena.Free = -1 },
		"a free list without an end":   func(x *api.Table) { x.Arena.Recs[5].Next = 5 },
		"a record of a key below 0":    func(x *api.Table) { x.Arena.Recs[1].Key = -1 },
		"a record of a task below 0":   func(x *api.Table) { x.Arena.Recs[1].Task = -1 },
		"a row that leads nowhere":     func(x *api.Table) { x.Arena.Recs[1].Next = 6 },
		"a root that is free":          func(x *api.Table) { x.Treap.Root = 4 },
		"a root below another node":    func(x *api.Table) { x.Treap.Root = 0 },
		"no root":                      func(x *api.Table) { x.Treap.Root = -1 },
		"a node of a key below 0":      func(x *api.Table) { x.Treap.Nodes[1].Key = -1 },
		"keys that don't rise":         func(x *api.Table) { x.Treap.Nodes[1].Key = 25 },
		"a priority less than above":   func(x *api.Table) { x.Treap.Nodes[1].Prio = 2 },
		"a free node with a queue":     func(x *api.Table) { x.Treap.Nodes[3].Queue = api.Queue{Head: 1, Tail: 1} },
		"free nodes, not of the list":  func(x *api.Table) { x.Treap.Free = 4 },
		"an empty queue":               func(x *api.Table) { x.Treap.Nodes[1].Queue = nobody; x.Arena = dropped(t, x.Arena, 1) },
		"only an empty queue":          func(x *api.Table) { *x = made(t, 1, 0); x.Treap = treapOf(0, -1, node(1, 1, -1, -1)) },
		"an empty queue besides":       func(x *api.Table) { x.Treap, _, _ = treap.Insert(x.Treap, 40, 9) },
		"an empty queue, its row left": func(x *api.Table) { x.Treap.Nodes[0].Queue = nobody },
		"a queue that only begins":     func(x *api.Table) { x.Treap.Nodes[1].Queue.Tail = -1 },
		"a queue that only ends":       func(x *api.Table) { x.Treap.Nodes[1].Queue.Head = -1 },
		"a queue of a free record":     func(x *api.Table) { x.Treap.Nodes[1].Queue = api.Queue{Head: 5, Tail: 5} },
		"a queue behind the last":      func(x *api.Table) { x.Treap.Nodes[1].Queue = api.Queue{Head: 6, Tail: 6} },
		"a queue below -1":             func(x *api.Table) { x.Treap.Nodes[1].Queue = api.Queue{Head: -2, Tail: -2} },
		"a queue of numbers too great": func(x *api.Table) { x.Treap.Nodes[1].Queue = api.Queue{Head: math.MaxInt, Tail: math.MinInt} },
		"a queue that ends early":      func(x *api.Table) { x.Treap.Nodes[0].Queue.Tail = 0 },
		"a queue that begins late":     func(x *api.Table) { x.Treap.Nodes[0].Queue.Head = 0 },
		"a queue that begins last":     func(x *api.Table) { x.Treap.Nodes[0].Queue.Head = 2 },
		"a circle":                     func(x *api.Table) { x.Arena.Recs[2].Next = 4 },
		"a circle of one":              func(x *api.Table) { x.Arena.Recs[1].Next = 1 },
		"a queue that ends elsewhere":  func(x *api.Table) { x.Treap.Nodes[1].Queue.Tail = 3 },
		"two queues of one record":     func(x *api.Table) { x.Treap.Nodes[1].Queue = x.Treap.Nodes[2].Queue },
		"a row into another one":       func(x *api.Table) { x.Arena.Recs[1].Next = 3; x.Treap.Nodes[1].Queue.Tail = 3 },
		"two queues with one end":      func(x *api.Table) { x.Arena.Recs[1].Next = 2; x.Treap.Nodes[1].Queue.Tail = 2 },
		"two queues turned":            func(x *api.Table) { turn(x.Treap.Nodes) },
		"the first one's key another":  func(x *api.Table) { x.Arena.Recs[4].Key = 10 },
		"a middle one's key another":   func(x *api.Table) { x.Arena.Recs[0].Key = 29 },
		"the last one's key another":   func(x *api.Table) { x.Arena.Recs[2].Key = math.MaxInt },
		"the only one's key another":   func(x *api.Table) { x.Arena.Recs[1].Key = 11 },
		"a node's key another":         func(x *api.Table) { x.Treap.Nodes[0].Key = 31 },
		"one of no queue":              func(x *api.Table) { x.Arena, _, _ = arena.Take(x.Arena, 30, 11) },
		"one of no queue and key":      func(x *api.Table) { x.Arena, _, _ = arena.Take(x.Arena, 99, 11) },
		"one of no queue, a circle":    func(x *api.Table) { x.Arena.Free, x.Arena.Recs[5] = -1, rec(30, 11, 5) },
		"one of no queue into a row":   func(x *api.Table) { x.Arena.Free, x.Arena.Recs[5] = -1, rec(30, 11, 4) },
		"one of no queue alone":        func(x *api.Table) { *x = made(t, 1, 1); x.Arena, _, _ = arena.Take(x.Arena, 3, 4) },
		"one of no queue, key 0":       func(x *api.Table) { x.Arena, _, _ = arena.Take(x.Arena, 0, 11) },
		"one of no queue, task 0":      func(x *api.Table) { x.Arena, _, _ = arena.Take(x.Arena, 30, 0) },
		"one of no queue, that waits":  func(x *api.Table) { x.Arena, _, _ = arena.Take(x.Arena, 30, 5) },
		"a task twice, all of key 0":   func(x *api.Table) { *x = twice(0, 6) },
		"the task 0 twice":             func(x *api.Table) { *x = twice(6, 0) },
		"a task in a row twice":        func(x *api.Table) { x.Arena.Recs[0].Task = 5 },
		"a task in a row's ends":       func(x *api.Table) { x.Arena.Recs[2].Task = 5 },
		"a task in two rows":           func(x *api.Table) { x.Arena.Recs[1].Task = 4 },
		"all of one task":              func(x *api.Table) { x.Arena.Recs[1].Task, x.Arena.Recs[3].Task = 1, 1 },
	} {
		x := five()
		change(&x)
		if wantRight(x) {
			t.Errorf("%s: it may be", what)
		}
		checkRefused(t, what, x)
		checkCalls(t, x, []int{10, 20, 30, 40, -1}, []int{0, 1, 4, 5, 9, -1})
	}
}

// twice is a table in which a task waits for a key twice.
func twice(key, task int) api.Table {
	return api.Table{Arena: arenaOf(-1, rec(key, task, 1), rec(key, task, -1)), Treap: treapOf(0, -1, node(key, 1, 0, 1))}
}

// turn gives two nodes each the other one's queue.
func turn(nodes []api.Node) {
	nodes[1].Queue, nodes[2].Queue = nodes[2].Queue, nodes[1].Queue
}

// dropped is an arena one of whose records is given back.
func dropped(t *testing.T, a api.Arena, i int) api.Arena {
	t.Helper()
	b, e := arena.Give(a, i)
	if e != api.OK {
		t.Fatal(int(e))
	}
	return b
}

// manyFree are free records, more than there may be.
func manyFree(n int) api.Arena {
	a := arenaOf(0)
	for i := range n {
		a.Recs = append(a.Recs, freeRec(nextOf(i+1, n)))
	}
	return a
}

// manyFreeNodes are free nodes, more than there may be.
func manyFreeNodes(n int) api.Treap {
	x := treapOf(-1, 0)
	for i := range n {
		x.Nodes = append(x.Nodes, freeNode(nextOf(i+1, n)))
	}
	return x
}

// smallArenas are all arenas that may be of these kinds of records.
func smallArenas(kinds ...[]api.Rec) []api.Arena {
	lists := [][]api.Rec{nil}
	for _, kind := range kinds {
		var longer [][]api.Rec
		for _, l := range lists {
			for _, r := range kind {
				longer = append(longer, append(slices.Clone(l), r))
			}
		}
		lists = longer
	}
	var arenas []api.Arena
	for _, l := range lists {
		for free := -1; free < len(kinds); free++ {
			if a := arenaOf(free, l...); arena.Right(a) {
				arenas = append(arenas, a)
			}
		}
	}
	return arenas
}

// kindsOf are all records of these keys and tasks, and free ones, in an arena of so many.
func kindsOf(n int, keys, tasks []int) []api.Rec {
	var list []api.Rec
	for next := -1; next < n; next++ {
		list = append(list, freeRec(next))
		for _, key := range keys {
			for _, task := range tasks {
				list = append(list, rec(key, task, next))
			}
		}
	}
	return list
}

// smallTreaps are all treaps that may be of two nodes at most, of the keys 1 and 2, whose queues lead to none or one of so many records, or behind them.
func smallTreaps(n int) []api.Treap {
	treaps := []api.Treap{treapOf(-1, -1), treapOf(-1, 0, freeNode(-1)), treapOf(-1, 0, freeNode(1), freeNode(-1)), treapOf(-1, 1, freeNode(-1), freeNode(0))}
	queues := []api.Queue{}
	for head := -1; head <= n; head++ {
		for tail := -1; tail <= n; tail++ {
			queues = append(queues, api.Queue{Head: head, Tail: tail})
		}
	}
	for _, q := range queues {
		one, two := node(1, 4, q.Head, q.Tail), node(2, 4, q.Head, q.Tail)
		treaps = append(treaps, treapOf(0, -1, one), treapOf(1, 0, freeNode(-1), one), treapOf(0, 1, two, freeNode(-1)))
		for _, r := range queues {
			for prio := uint32(3); prio < 6; prio += 2 {
				x := treapOf(-1, -1, node(2, prio, r.Head, r.Tail), one)
				x.Root = top(&x, []int{1, 0})
				treaps = append(treaps, x)
			}
		}
	}
	return treaps
}

// P10.1: all tables of up to two records and two nodes, of two keys and two tasks, right or not: each call, held against the chapter's words.
func TestSmallTables(t *testing.T) {
	rights := 0
	keys, tasks := []int{1, 2}, []int{5, 6}
	for n := range 3 {
		var kinds [][]api.Rec
		for range n {
			kinds = append(kinds, kindsOf(n, keys, tasks))
		}
		for _, a := range smallArenas(kinds...) {
			for _, x := range smallTreaps(n) {
				table := api.Table{Arena: a, Treap: x}
				checkRight(t, table)
				if !wantRight(table) {
					continue
				}
				rights++
				checkCalls(t, table, []int{0, 1, 2, 3, -1}, []int{4, 5, 6, -1})
			}
		}
	}
	// By the chapter's words, counted by hand.
	if rights != 54 {
		t.Error("so many of them may be:", rights)
	}
}

// P10.1: all tables of three records of which two may be of one task, and two nodes.
func TestThreeRecords(t *testing.T) {
	rights := 0
	treaps := smallTreaps(3)
	for _, a := range smallArenas(kindsOf(3, []int{1, 2}, []int{5}), kindsOf(3, []int{1, 2}, []int{6}), kindsOf(3, []int{1, 2}, []int{6, 7})) {
		for _, x := range treaps {
			table := api.Table{Arena: a, Treap: x}
			want := wantRight(table)
			if got := sema.Right(table); got != want {
				t.Errorf("Right(%v) = %v", table, got)
			}
			if want {
				rights++
				checkCalls(t, table, []int{1, 2, 3}, []int{4, 5, 6, 7})
			}
		}
	}
	// By the chapter's words, counted by hand.
	if rights != 130 {
		t.Error("so many of them may be:", rights)
	}
}

// waits is a key and who waits for it.
type waits struct {
	key   int
	tasks []int
}

// checkWaits looks whether a table may be, and has just these keys, rising, and for each of them these tasks.
func checkWaits(t *testing.T, x api.Table, want ...waits) {
	t.Helper()
	if !sema.Right(x) {
		t.Errorf("%v may be", x)
	}
	var keys []int
	for _, w := range want {
		keys = append(keys, w.key)
		if got := sema.Waits(x, w.key); !slices.Equal(got, w.tasks) {
			t.Errorf("for %d wait %v, not %v", w.key, got, w.tasks)
		}
		for _, task := range w.tasks {
			if key := sema.Where(x, task); key != w.key {
				t.Errorf("%d waits for %d, not %d", task, key, w.key)
			}
		}
	}
	if got := treap.Keys(x.Treap); !slices.Equal(got, keys) {
		t.Errorf("for %v waits somebody, not for %v", got, keys)
	}
}

// P10.1: tasks 1 and 2 wait for 7, 3 for 4: 7 woken is 1.
func TestExample(t *testing.T) {
	x, e := sema.Make(3)
	if e != api.OK {
		t.Fatal(int(e))
	}
	x = parked(t, parked(t, x, 7, 1, 2), 4, 3)
	checkWaits(t, x, waits{4, []int{3}}, waits{7, []int{1, 2}})
	y, task, e := sema.Wake(x, 7)
	if task != 1 || e != api.OK {
		t.Error(task, int(e))
	}
	checkWaits(t, y, waits{4, []int{3}}, waits{7, []int{2}})
}

// P10.1: Park to the front and not, for a key for which nobody waits, one, several; a node that comes has the priority, one that is there keeps its own.
func TestPark(t *testing.T) {
	for _, c := range []struct {
		key   int
		front bool
		want  []int
	}{
		{40, false, []int{9}}, {40, true, []int{9}}, {0, false, []int{9}}, {math.MaxInt, true, []int{9}},
		{10, false, []int{2, 9}}, {10, true, []int{9, 2}},
		{30, false, []int{5, 1, 3, 9}}, {30, true, []int{9, 5, 1, 3}},
	} {
		for _, prio := range []uint32{0, 3, 8, 50, math.MaxUint32} {
			x := five()
			checkPark(t, x, c.key, 9, c.front, prio)
			y, e := sema.Park(x, c.key, 9, c.front, prio)
			if e != api.OK || !slices.Equal(sema.Waits(y, c.key), c.want) || sema.Where(y, 9) != c.key || !sema.Right(y) {
				t.Errorf("Park(%d, %v): %v, %d", c.key, c.front, sema.Waits(y, c.key), int(e))
			}
			i, _, was := treap.Find(x.Treap, c.key)
			if was {
				prio = x.Treap.Nodes[i].Prio
			}
			if i, _, ok := treap.Find(y.Treap, c.key); !ok || y.Treap.Nodes[i].Prio != prio {
				t.Errorf("Park(%d): the priority %d is %d", c.key, prio, y.Treap.Nodes[i].Prio)
			}
			for _, key := range []int{10, 20, 30} {
				if key != c.key && !slices.Equal(sema.Waits(y, key), sema.Waits(x, key)) {
					t.Errorf("Park(%d): for %d wait %v", c.key, key, sema.Waits(y, key))
				}
			}
		}
	}
	one, e := sema.Park(made(t, 1, 1), 4, 0, true, 6)
	if want := (api.Table{Arena: arenaOf(-1, rec(4, 0, -1)), Treap: treapOf(0, -1, node(4, 6, 0, 0))}); !same(one, want) || e != api.OK {
		t.Error(one, int(e))
	}
}

// P10.1: Park's errors, in their order: what may not be ahead of who waits already, and that ahead of no room.
func TestParkRefused(t *testing.T) {
	full := parked(t, five(), 30, 6)
	noNode := parked(t, made(t, 4, 2), 10, 1, 2)
	noNode = parked(t, noNode, 20, 3)
	nothing := made(t, 0, 0)
	for _, c := range []struct {
		what      string
		x         api.Table
		key, task int
		want      api.Errno
	}{
		{"a key below 0", five(), -1, 9, api.ErrArg},
		{"a task below 0", five(), 10, -1, api.ErrArg},
		{"both below 0", five(), -1, -1, api.ErrArg},
		{"the least key", five(), math.MinInt, 9, api.ErrArg},
		{"the least task", five(), 10, math.MinInt, api.ErrArg},
		{"a key below 0 of one that waits", five(), -1, 1, api.ErrArg},
		{"a key below 0, all full", full, -1, 9, api.ErrArg},
		{"a task below 0, all full", full, 10, -1, api.ErrArg},
		{"a key below 0, no node free", noNode, -1, 9, api.ErrArg},
		{"a key below 0, of none", nothing, -1, 9, api.ErrArg},
		{"a task below 0, of none", nothing, 9, -1, api.ErrArg},
		{"who waits first, for the same key", five(), 30, 5, api.ErrThere},
		{"who waits in between, for the same key", five(), 30, 1, api.ErrThere},
		{"who waits last, for the same key", five(), 30, 3, api.ErrThere},
		{"who waits alone, for the same key", five(), 10, 2, api.ErrThere},
		{"who waits, for another key", five(), 10, 1, api.ErrThere},
		{"who waits alone, for another key", five(), 30, 2, api.ErrThere},
		{"who waits, for a key that has none", five(), 40, 3, api.ErrThere},
		{"who waits for the same key, all full", full, 30, 6, api.ErrThere},
		{"who waits for another key, all full", full, 40, 6, api.ErrThere},
		{"who waits for another key, no node free", noNode, 30, 3, api.ErrThere},
		{"no record free, the key has some", full, 30, 9, api.ErrFull},
		{"no record free, the key has none", full, 40, 9, api.ErrFull},
		{"no node free, the key has none", noNode, 30, 9, api.ErrFull},
		{"no node free, a key less than all, that has none", noNode, 0, 9, api.ErrFull},
		{"of none", nothing, 0, 0, api.ErrFull},
		{"no record, but nodes", made(t, 0, 3), 0, 0, api.ErrFull},
		{"no node, but records", made(t, 3, 0), 0, 0, api.ErrFull},
		{"no node free, the key has some", noNode, 10, 9, api.OK},
		{"no node free, the other key has one", noNode, 20, 0, api.OK},
	} {
		for _, front := range []bool{false, true} {
			checkPark(t, c.x, c.key, c.task, front, 3)
			y, e := sema.Park(c.x, c.key, c.task, front, 3)
			if e != c.want || e != api.OK && !same(y, c.x) {
				t.Errorf("%s: %v, %d, not %d", c.what, y, int(e), int(c.want))
			}
		}
	}
}

// P10.1: Wake and Waits of keys for which nobody waits, one, several, and of keys below 0.
func TestWake(t *testing.T) {
	x := five()
	for _, c := range []struct {
		key  int
		was  []int
		task int
		e    api.Errno
	}{
		{10, []int{2}, 2, api.OK}, {20, []int{4}, 4, api.OK}, {30, []int{5, 1, 3}, 5, api.OK},
		{40, nil, 0, api.ErrNone}, {0, nil, 0, api.ErrNone}, {15, nil, 0, api.ErrNone}, {-1, nil, 0, api.ErrNone},
		{math.MinInt, nil, 0, api.ErrNone}, {math.MaxInt, nil, 0, api.ErrNone}, {5, nil, 0, api.ErrNone},
	} {
		checkWake(t, x, c.key)
		if got := sema.Waits(x, c.key); !slices.Equal(got, c.was) {
			t.Errorf("for %d wait %v, not %v", c.key, got, c.was)
		}
		y, task, e := sema.Wake(x, c.key)
		if task != c.task || e != c.e || e != api.OK && !same(y, x) {
			t.Errorf("Wake(%d) = %v, %d, %d", c.key, y, task, int(e))
		}
		if e == api.OK && (!slices.Equal(sema.Waits(y, c.key), c.was[1:]) || sema.Where(y, task) != -1 || !sema.Right(y)) {
			t.Errorf("Wake(%d): then %v wait", c.key, sema.Waits(y, c.key))
		}
	}
	for n := range 3 {
		checkWake(t, made(t, n, n), 0)
		checkWake(t, made(t, n, n), -1)
	}
}

// P10.1: Cancel and Where of who waits first, in between, last, alone, of who doesn't, and of tasks below 0.
func TestCancel(t *testing.T) {
	x := five()
	for _, c := range []struct {
		task, key int
		left      []int
	}{
		{5, 30, []int{1, 3}}, {1, 30, []int{5, 3}}, {3, 30, []int{5, 1}}, {2, 10, nil}, {4, 20, nil},
		{9, -1, nil}, {0, -1, nil}, {10, -1, nil}, {30, -1, nil}, {-1, -1, nil}, {-2, -1, nil}, {math.MaxInt, -1, nil}, {math.MinInt, -1, nil},
	} {
		checkCancel(t, x, c.task)
		if key := sema.Where(x, c.task); key != c.key {
			t.Errorf("%d waits for %d, not %d", c.task, key, c.key)
		}
		y, e := sema.Cancel(x, c.task)
		if c.key < 0 && (e != api.ErrNone || !same(y, x)) {
			t.Errorf("Cancel(%d) = %v, %d", c.task, y, int(e))
		}
		if c.key >= 0 && (e != api.OK || !slices.Equal(sema.Waits(y, c.key), c.left) || sema.Where(y, c.task) != -1 || !sema.Right(y)) {
			t.Errorf("Cancel(%d) = %v, %d", c.task, y, int(e))
		}
	}
	for n := range 3 {
		checkCancel(t, made(t, n, n), 0)
		checkCancel(t, made(t, n, n), -1)
	}
}

// P10.1: a key's node goes with the last one who waits for it, and not earlier; when the key comes again it has the priority with which it came then.
func TestNodeGoes(t *testing.T) {
	x, _ := sema.Make(4)
	x, _ = sema.Park(x, 7, 1, false, 50)
	x, _ = sema.Park(x, 7, 2, false, 60)
	x, _ = sema.Park(x, 8, 3, false, 55)
	prio := func(x api.Table, key int) uint32 {
		i, _, _ := treap.Find(x.Treap, key)
		return x.Treap.Nodes[i].Prio
	}
	if prio(x, 7) != 50 || x.Treap.Nodes[x.Treap.Root].Key != 7 {
		t.Error("the first one's priority:", x.Treap)
	}
	woken, _, _ := sema.Wake(x, 7)
	canceled, _ := sema.Cancel(x, 1)
	for _, y := range []api.Table{woken, canceled} {
		checkWaits(t, y, waits{7, []int{2}}, waits{8, []int{3}})
		if prio(y, 7) != 50 || y.Treap.Nodes[y.Treap.Root].Key != 7 {
			t.Error("it stays, while one waits:", y.Treap)
		}
		last, _, _ := sema.Wake(y, 7)
		none, _ := sema.Cancel(y, 2)
		for _, z := range []api.Table{last, none} {
			checkWaits(t, z, waits{8, []int{3}})
			if z.Treap.Free != 0 || z.Treap.Nodes[0] != freeNode(2) {
				t.Error("the node that went is the next one:", z.Treap)
			}
			again, e := sema.Park(z, 7, 2, true, 60)
			if e != api.OK || prio(again, 7) != 60 || again.Treap.Nodes[again.Treap.Root].Key != 8 {
				t.Error("the key that comes again:", again.Treap, int(e))
			}
		}
	}
}

// P10.2: Normal of a table with nobody, of one whose keys, records and free lists stand in any order, and of a normal form, written out.
func TestNormalWrittenOut(t *testing.T) {
	x := five()
	twenty := node(20, 3, 1, 1)
	twenty.Left, twenty.Right = 0, 2
	want := api.Table{
		Arena: arenaOf(5, rec(10, 2, -1), rec(20, 4, -1), rec(30, 5, 3), rec(30, 1, 4), rec(30, 3, -1), freeRec(-1)),
		Treap: treapOf(1, 3, node(10, 7, 0, 0), twenty, node(30, 9, 2, 4), freeNode(4), freeNode(5), freeNode(-1)),
	}
	if got := sema.Normal(x); !same(got, want) {
		t.Errorf("%v, not %v", got, want)
	}
	if got := sema.Normal(want); !same(got, want) {
		t.Errorf("of itself: %v, not %v", got, want)
	}
	for _, n := range []int{0, 1, 2, 5, 64} {
		for _, m := range []int{0, 1, 3, 64} {
			x := made(t, n, m)
			if got := sema.Normal(x); !same(got, x) {
				t.Errorf("of nobody: %v", got)
			}
		}
	}
	falling := api.Table{Arena: arenaOf(2, freeRec(-1), freeRec(0), freeRec(1)), Treap: treapOf(-1, 1, freeNode(-1), freeNode(0))}
	if got := sema.Normal(falling); !same(got, made(t, 3, 2)) {
		t.Errorf("of nobody, the free lists falling: %v", got)
	}
	one := parked(t, falling, 6, 4)
	if got := sema.Normal(one); !same(got, parked(t, made(t, 3, 2), 6, 4)) {
		t.Errorf("of one: %v", got)
	}
}

// P10.2: Normal of full tables of 64 tasks: all for one key, each for its own, and for some keys.
func TestNormalOfFull(t *testing.T) {
	for _, keys := range []int{1, 2, 7, 63, 64} {
		x, _ := sema.Make(64)
		for i := range 64 {
			var e api.Errno
			task := (i*37 + 5) % 64
			if x, e = sema.Park(x, task%keys*3, task, i%3 == 0, uint32(i*11%5)); e != api.OK {
				t.Fatal(int(e))
			}
		}
		m := sema.Normal(x)
		if !same(m, wantNormal(x)) || !sema.Right(m) || !same(sema.Normal(m), m) {
			t.Errorf("of %d keys: %v", keys, m)
		}
		if len(treap.Keys(m.Treap)) != keys || m.Arena.Free != -1 {
			t.Errorf("of %d keys: %v", keys, m)
		}
		for key := range 64 * 3 {
			if !slices.Equal(sema.Waits(m, key), sema.Waits(x, key)) {
				t.Errorf("of %d keys: for %d wait %v", keys, key, sema.Waits(m, key))
			}
		}
		checkCalls(t, x, []int{0, 3, 189, 4, -1}, []int{0, 5, 63, 64, -1})
	}
}

// P10.1: what is answered is the caller's own, and none of it is changed by a later call.
func TestAnswersStay(t *testing.T) {
	x := five()
	front, _ := sema.Park(x, 30, 9, true, 1)
	woken, _, _ := sema.Wake(x, 30)
	canceled, _ := sema.Cancel(x, 2)
	normal := sema.Normal(x)
	refused, _ := sema.Cancel(x, 99)
	clear(sema.Waits(x, 30))
	_ = append(sema.Waits(x, 30)[:1], 77)
	ten, twenty := waits{10, []int{2}}, waits{20, []int{4}}
	checkWaits(t, front, ten, twenty, waits{30, []int{9, 5, 1, 3}})
	checkWaits(t, woken, ten, twenty, waits{30, []int{1, 3}})
	checkWaits(t, canceled, twenty, waits{30, []int{5, 1, 3}})
	checkWaits(t, normal, ten, twenty, waits{30, []int{5, 1, 3}})
	if !same(x, five()) || !same(refused, x) {
		t.Error(x, refused)
	}
}

// line is what must hold of a table: who waits for which key, in order, and with which priority each key came.
type line struct {
	tasks map[int][]int
	prios map[int]uint32
}

// where: for which key a task waits; -1.
func (l line) where(task int) int {
	for key, tasks := range l.tasks {
		if slices.Contains(tasks, task) {
			return key
		}
	}
	return -1
}

// without: a task waits no more; its key goes with the last one.
func (l line) without(key, task int) {
	l.tasks[key] = slices.DeleteFunc(slices.Clone(l.tasks[key]), func(x int) bool { return x == task })
	if len(l.tasks[key]) == 0 {
		delete(l.tasks, key)
		delete(l.prios, key)
	}
}

// keys: rising.
func (l line) keys() []int {
	var keys []int
	for key := range l.tasks {
		keys = append(keys, key)
	}
	slices.Sort(keys)
	return keys
}

// count: how many wait.
func (l line) count() int {
	n := 0
	for _, tasks := range l.tasks {
		n += len(tasks)
	}
	return n
}

// check looks whether a table is what the line says.
func (l line) check(t *testing.T, x api.Table) {
	t.Helper()
	var want []waits
	for _, key := range l.keys() {
		want = append(want, waits{key, l.tasks[key]})
		if i, _, _ := treap.Find(x.Treap, key); x.Treap.Nodes[i].Prio != l.prios[key] {
			t.Errorf("the key %d has the priority %d, not %d", key, x.Treap.Nodes[i].Prio, l.prios[key])
		}
	}
	checkWaits(t, x, want...)
	if n := len(arena.Free(x.Arena)) + l.count(); n != len(x.Arena.Recs) {
		t.Errorf("%d are free or wait, of %d", n, len(x.Arena.Recs))
	}
}

// again is a table of so many in which the same tasks are parked in another order: the last key first, each key's last task first.
func (l line) again(t *testing.T, recs, nodes int) api.Table {
	t.Helper()
	x := made(t, recs, nodes)
	keys := l.keys()
	slices.Reverse(keys)
	for _, key := range keys {
		tasks := slices.Clone(l.tasks[key])
		slices.Reverse(tasks)
		for _, task := range tasks {
			var e api.Errno
			if x, e = sema.Park(x, key, task, true, l.prios[key]); e != api.OK {
				t.Fatal("once again:", int(e))
			}
		}
	}
	return x
}

// park parks a task in both, and tells whether there was room.
func (l line) park(t *testing.T, x api.Table, key, task int, front bool, prio uint32, nodes int) (api.Table, bool) {
	t.Helper()
	y, e := sema.Park(x, key, task, front, prio)
	_, has := l.tasks[key]
	switch {
	case l.where(task) >= 0:
		if e != api.ErrThere || !same(y, x) {
			t.Fatal("Park of who waits already:", int(e))
		}
		return x, true
	case l.count() == len(x.Arena.Recs) || !has && len(l.tasks) == nodes:
		if e != api.ErrFull || !same(y, x) {
			t.Fatal("Park where is no room:", int(e))
		}
		return x, false
	case e != api.OK:
		t.Fatal("Park:", int(e))
	case front:
		l.tasks[key] = append([]int{task}, l.tasks[key]...)
	default:
		l.tasks[key] = append(slices.Clone(l.tasks[key]), task)
	}
	if !has {
		l.prios[key] = prio
	}
	return y, true
}

// wake wakes a task in both.
func (l line) wake(t *testing.T, x api.Table, key int) api.Table {
	t.Helper()
	y, task, e := sema.Wake(x, key)
	if len(l.tasks[key]) == 0 {
		if e != api.ErrNone || task != 0 || !same(y, x) {
			t.Fatal("Wake where nobody waits:", task, int(e))
		}
		return x
	}
	if e != api.OK || task != l.tasks[key][0] {
		t.Fatal("Wake:", task, int(e))
	}
	l.without(key, task)
	return y
}

// cancel takes a task out of both.
func (l line) cancel(t *testing.T, x api.Table, task int) api.Table {
	t.Helper()
	y, e := sema.Cancel(x, task)
	key := l.where(task)
	if key < 0 {
		if e != api.ErrNone || !same(y, x) {
			t.Fatal("Cancel of who doesn't wait:", int(e))
		}
		return x
	}
	if e != api.OK {
		t.Fatal("Cancel:", int(e))
	}
	l.without(key, task)
	return y
}

// P10.2: whatever is parked, woken and cancelled, in any order: the same comes of it as of rows by keys, and the normal form hangs on these alone.
func TestInAnyOrder(t *testing.T) {
	for seed, size := range [][2]int{{0, 0}, {1, 1}, {2, 2}, {3, 1}, {2, 5}, {6, 6}, {12, 4}, {12, 12}, {30, 9}, {64, 64}, {64, 3}} {
		x := uint32(seed + 1)
		recs, nodes := size[0], size[1]
		table := made(t, recs, nodes)
		l := line{map[int][]int{}, map[int]uint32{}}
		full, keys, tasks := 0, nodes*2+2, recs*2+2
		for round := range 900 {
			// Times in which more comes than goes, and the other way.
			most := 4 + round/150%2*3
			var room bool
			switch c := step(&x, 10); {
			case c >= most && c < 8:
				table = l.wake(t, table, step(&x, keys))
			case c >= most:
				table = l.cancel(t, table, step(&x, tasks))
			default:
				if table, room = l.park(t, table, step(&x, keys), step(&x, tasks), step(&x, 3) == 0, uint32(step(&x, 6)), nodes); !room {
					full++
				}
			}
			// Of many each look takes long.
			if recs <= 12 || round%16 == 0 {
				l.check(t, table)
			}
			if round%5 == 0 && recs <= 12 || round%80 == 0 {
				m := sema.Normal(table)
				l.check(t, m)
				if !same(m, sema.Normal(l.again(t, recs, nodes))) || !same(m, sema.Normal(m)) || !same(m, wantNormal(table)) {
					t.Fatalf("of %v the normal form %v", table, m)
				}
			}
		}
		if full == 0 {
			t.Error("so far no table was full, of", size)
		}
		l.empty(t, table)
	}
}

// empty wakes all that wait, each once, in turn, and looks whether the table has as much room as at first.
func (l line) empty(t *testing.T, x api.Table) {
	t.Helper()
	for _, key := range l.keys() {
		for _, want := range l.tasks[key] {
			y, task, e := sema.Wake(x, key)
			if e != api.OK || task != want {
				t.Fatalf("Wake(%d): %d, %d, not %d", key, task, int(e), want)
			}
			x = y
		}
	}
	if !same(sema.Normal(x), made(t, len(x.Arena.Recs), len(x.Treap.Nodes))) {
		t.Fatalf("all are woken, and %v is left", x)
	}
}

// P10.2: tasks that are parked for one key, to the end, are woken in turn; one that is parked to the front is woken at once.
func TestInTurn(t *testing.T) {
	for _, n := range []int{0, 1, 2, 3, 4, 5, 6, 7, 12, 33, 63, 64} {
		x, _ := sema.Make(n)
		for i := range n {
			x = parked(t, x, i%3, i)
		}
		for i := range n {
			y, task, e := sema.Wake(x, i%3)
			if e != api.OK || task != i {
				t.Fatalf("of %d: %d, not %d", n, task, i)
			}
			z, e := sema.Park(y, i%3, task, true, uint32(i%3))
			if e != api.OK || !same(sema.Normal(z), sema.Normal(x)) {
				t.Fatalf("of %d: %d is parked again: %v, %d", n, i, z, int(e))
			}
			if z, task, e = sema.Wake(z, i%3); e != api.OK || task != i || !same(sema.Normal(z), sema.Normal(y)) {
				t.Fatalf("of %d: %d is woken again: %v, %d", n, i, z, int(e))
			}
			x = y
		}
		if _, _, e := sema.Wake(x, 0); e != api.ErrNone {
			t.Fatal(int(e))
		}
	}
}
