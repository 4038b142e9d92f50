package treap_test

import (
	"math"
	"slices"
	"testing"

	"torpor/api"
	"torpor/treap"
)

var none = api.Queue{Head: -1, Tail: -1}

// freeTo is a free node that leads to another one.
func freeTo(next int) api.Node {
	return api.Node{Key: -1, Left: next, Right: -1, Queue: none}
}

// node is one that isn't free.
func node(key int, prio uint32, left, right int) api.Node {
	return api.Node{Key: key, Prio: prio, Left: left, Right: right, Queue: none}
}

// leaf is one below which nothing lies.
func leaf(key int, prio uint32) api.Node {
	return node(key, prio, -1, -1)
}

// hung is a node with a queue.
func hung(n api.Node, head, tail int) api.Node {
	n.Queue = api.Queue{Head: head, Tail: tail}
	return n
}

func of(root, free int, nodes ...api.Node) api.Treap {
	return api.Treap{Nodes: nodes, Root: root, Free: free}
}

func same(a, b api.Treap) bool {
	return a.Root == b.Root && a.Free == b.Free && slices.Equal(a.Nodes, b.Nodes)
}

func cloned(t api.Treap) api.Treap {
	t.Nodes = slices.Clone(t.Nodes)
	return t
}

// wantFree is the free list, by the chapter's words; false, if it goes where it may not.
func wantFree(t api.Treap) ([]int, bool) {
	var list []int
	for i := t.Free; i != -1; i = t.Nodes[i].Left {
		if i < 0 || i >= len(t.Nodes) || slices.Contains(list, i) || t.Nodes[i] != freeTo(t.Nodes[i].Left) {
			return nil, false
		}
		list = append(list, i)
	}
	return list, true
}

// reached are the places by which one comes from a place on; false, if one comes by one twice, or to one that isn't there.
func reached(t api.Treap, from int) ([]int, bool) {
	var met []int
	for open := []int{from}; len(open) > 0; open = open[1:] {
		i := open[0]
		if i == -1 {
			continue
		}
		if i < 0 || i >= len(t.Nodes) || slices.Contains(met, i) {
			return nil, false
		}
		met = append(met, i)
		open = append(open, t.Nodes[i].Left, t.Nodes[i].Right)
	}
	return met, true
}

// wantAbove: is a node above another one, by the chapter's words?
func wantAbove(n, m api.Node) bool {
	return n.Prio < m.Prio || n.Prio == m.Prio && n.Key < m.Key
}

// wantBelow: are the keys of what lies on one side of a node as they must be, and all of that below it?
func wantBelow(t api.Treap, n api.Node, from int, right bool) bool {
	met, _ := reached(t, from)
	for _, i := range met {
		m := t.Nodes[i]
		if m.Key == n.Key || m.Key > n.Key != right || !wantAbove(n, m) {
			return false
		}
	}
	return true
}

// wantRight is what Right must answer, by the chapter's words.
func wantRight(t api.Treap) bool {
	free, ok := wantFree(t)
	if !ok || len(t.Nodes) > 64 {
		return false
	}
	met, ok := reached(t, t.Root)
	if !ok {
		return false
	}
	for i, n := range t.Nodes {
		if slices.Contains(free, i) == slices.Contains(met, i) {
			return false
		}
		if slices.Contains(met, i) && (n.Key < 0 || !wantBelow(t, n, n.Left, false) || !wantBelow(t, n, n.Right, true)) {
			return false
		}
	}
	return true
}

// taken are the places of the nodes that aren't free, their keys rising.
func taken(t api.Treap) []int {
	met, _ := reached(t, t.Root)
	slices.SortFunc(met, func(i, k int) int { return t.Nodes[i].Key - t.Nodes[k].Key })
	return met
}

// wantKeys is what Keys must answer, by the chapter's words.
func wantKeys(t api.Treap) []int {
	var keys []int
	if wantRight(t) {
		for _, i := range taken(t) {
			keys = append(keys, t.Nodes[i].Key)
		}
	}
	return keys
}

// laid lays the one tree that there is of the nodes at these places, their keys rising; its top.
func laid(t api.Treap, places []int) int {
	if len(places) == 0 {
		return -1
	}
	top := 0
	for k, i := range places {
		if wantAbove(t.Nodes[i], t.Nodes[places[top]]) {
			top = k
		}
	}
	n := &t.Nodes[places[top]]
	n.Left, n.Right = laid(t, places[:top]), laid(t, places[top+1:])
	return places[top]
}

// at: the place of a key's node, by looking at all of them; -1.
func at(t api.Treap, key int) int {
	for _, i := range taken(t) {
		if t.Nodes[i].Key == key {
			return i
		}
	}
	return -1
}

// found is what Find may answer.
type found struct {
	place, looks int
	ok           bool
}

// onTheWay: does one come by a node on the way to a key? By keys and priorities alone: none of those from the node's key to that one may be above it.
func onTheWay(t api.Treap, n api.Node, key int) bool {
	return !slices.ContainsFunc(taken(t), func(i int) bool {
		m := t.Nodes[i]
		return min(n.Key, key) <= m.Key && m.Key <= max(n.Key, key) && wantAbove(m, n)
	})
}

// wantFind is what Find must answer, by the chapter's words.
func wantFind(t api.Treap, key int) found {
	var f found
	if !wantRight(t) {
		return f
	}
	for _, i := range taken(t) {
		if onTheWay(t, t.Nodes[i], key) {
			f.looks++
		}
		if t.Nodes[i].Key == key {
			f.place, f.ok = i, true
		}
	}
	return f
}

// wantInsert is what Insert must answer, by the chapter's words.
func wantInsert(t api.Treap, key int, prio uint32) (api.Treap, int, api.Errno) {
	switch {
	case !wantRight(t) || key < 0:
		return t, 0, api.ErrArg
	case at(t, key) >= 0:
		return t, 0, api.ErrThere
	case t.Free == -1:
		return t, 0, api.ErrFull
	}
	u, i := cloned(t), t.Free
	u.Free = t.Nodes[i].Left
	u.Nodes[i] = leaf(key, prio)
	places := taken(t)
	k := 0
	for k < len(places) && t.Nodes[places[k]].Key < key {
		k++
	}
	u.Root = laid(u, slices.Insert(places, k, i))
	return u, i, api.OK
}

// wantDelete is what Delete must answer, by the chapter's words.
func wantDelete(t api.Treap, key int) (api.Treap, api.Errno) {
	if !wantRight(t) {
		return t, api.ErrArg
	}
	i := at(t, key)
	switch {
	case i < 0:
		return t, api.ErrNone
	case t.Nodes[i].Queue.Head != -1 || t.Nodes[i].Queue.Tail != -1:
		return t, api.ErrThere
	}
	u, places := cloned(t), taken(t)
	u.Root = laid(u, slices.DeleteFunc(places, func(k int) bool { return k == i }))
	u.Nodes[i], u.Free = freeTo(t.Free), i
	return u, api.OK
}

// wantHang is what Hang must answer, by the chapter's words.
func wantHang(t api.Treap, key int, q api.Queue) (api.Treap, api.Errno) {
	if !wantRight(t) {
		return t, api.ErrArg
	}
	i := at(t, key)
	if i < 0 {
		return t, api.ErrNone
	}
	u := cloned(t)
	u.Nodes[i].Queue = q
	return u, api.OK
}

// given is a treap with spare room behind its nodes, and how both were when it was made.
type given struct {
	treap api.Treap
	was   []api.Node
}

func give(t api.Treap) given {
	nodes := append(slices.Clone(t.Nodes), leaf(77, 78), freeTo(0), hung(node(79, 80, 81, 82), 83, 84))
	return given{of(t.Root, t.Free, nodes[:len(t.Nodes)]...), slices.Clone(nodes)}
}

// all are the nodes that were handed in, and what stands in the room behind them.
func (g given) all() []api.Node {
	return g.treap.Nodes[:len(g.was)]
}

// unchanged looks whether what was handed in is as it was.
func (g given) unchanged(t *testing.T, call string) {
	t.Helper()
	if !slices.Equal(g.all(), g.was) {
		t.Errorf("%s changes what was handed in: %v", call, g.all())
	}
}

// check holds an answer against the one that must be, looks whether what was handed in is as it was, and whether either is changed with the other one.
func (g given) check(t *testing.T, call string, got, want api.Treap, e, wantE api.Errno) {
	t.Helper()
	if !same(got, want) || e != wantE {
		t.Errorf("%s of %v: %v, %d, not %v, %d", call, g.treap, got, int(e), want, int(wantE))
	}
	g.unchanged(t, call)
	want = cloned(want)
	for i := range g.all() {
		g.all()[i] = hung(node(91, 92, 93, 94), 95, 96)
	}
	if !same(got, want) {
		t.Errorf("%s: the answer is changed with what was handed in", call)
	}
	copy(g.all(), g.was)
	for i := range got.Nodes {
		got.Nodes[i] = leaf(97, 98)
	}
	// An answer's spare room is its own, too.
	_ = append(got.Nodes, leaf(99, 99))
	if !slices.Equal(g.all(), g.was) {
		t.Errorf("%s: what was handed in is changed with the answer", call)
	}
}

// checkLooks holds the calls that answer no treap against the chapter's words.
func checkLooks(t *testing.T, x api.Treap, keys []int) {
	t.Helper()
	g := give(x)
	if got := treap.Right(g.treap); got != wantRight(x) {
		t.Errorf("Right(%v) = %v", x, got)
	}
	if got := treap.Keys(g.treap); !slices.Equal(got, wantKeys(x)) {
		t.Errorf("Keys(%v) = %v, not %v", x, got, wantKeys(x))
	}
	for _, key := range keys {
		place, looks, ok := treap.Find(g.treap, key)
		if got := (found{place, looks, ok}); got != wantFind(x, key) {
			t.Errorf("Find(%v, %d) = %v, not %v", x, key, got, wantFind(x, key))
		}
	}
	g.unchanged(t, "a look")
}

func checkInsert(t *testing.T, x api.Treap, key int, prio uint32) {
	t.Helper()
	g := give(x)
	y, place, e := treap.Insert(g.treap, key, prio)
	want, wantPlace, wantE := wantInsert(x, key, prio)
	if place != wantPlace {
		t.Errorf("Insert(%v, %d, %d) is at %d, not at %d", x, key, prio, place, wantPlace)
	}
	if e == api.OK && !wantRight(y) {
		t.Errorf("Insert(%v, %d, %d) = %v", x, key, prio, y)
	}
	g.check(t, "Insert", y, want, e, wantE)
}

func checkDelete(t *testing.T, x api.Treap, key int) {
	t.Helper()
	g := give(x)
	y, e := treap.Delete(g.treap, key)
	want, wantE := wantDelete(x, key)
	if e == api.OK && !wantRight(y) {
		t.Errorf("Delete(%v, %d) = %v", x, key, y)
	}
	g.check(t, "Delete", y, want, e, wantE)
}

func checkHang(t *testing.T, x api.Treap, key int, q api.Queue) {
	t.Helper()
	g := give(x)
	y, e := treap.Hang(g.treap, key, q)
	want, wantE := wantHang(x, key, q)
	g.check(t, "Hang", y, want, e, wantE)
}

// near are the keys of a treap, those beside them, and some that none has.
func near(x api.Treap) []int {
	keys := []int{0, -1, -2, math.MinInt, math.MaxInt, 1 << 32}
	for _, n := range x.Nodes[:min(len(x.Nodes), 66)] {
		keys = append(keys, n.Key-1, n.Key, n.Key+1)
	}
	slices.Sort(keys)
	return slices.Compact(keys)
}

// checkCalls holds each call of a treap against the chapter's words, of its keys and of those beside them.
func checkCalls(t *testing.T, x api.Treap) {
	t.Helper()
	keys := near(x)
	checkLooks(t, x, keys)
	for _, key := range keys {
		checkDelete(t, x, key)
		checkHang(t, x, key, api.Queue{Head: 3, Tail: 8})
		checkHang(t, x, key, none)
		for _, prio := range []uint32{0, 1, 2, 1<<31 - 1, 1 << 31, math.MaxUint32} {
			checkInsert(t, x, key, prio)
		}
	}
}

// checkRefused looks whether each call of a treap that may not be is refused, and answers it as it was.
func checkRefused(t *testing.T, what string, x api.Treap) {
	t.Helper()
	if treap.Right(x) || len(treap.Keys(x)) != 0 {
		t.Errorf("%s: it may be, or has keys: %v", what, treap.Keys(x))
	}
	for _, key := range []int{0, 1, 5, -1, -2, math.MaxInt, math.MinInt} {
		if place, looks, ok := treap.Find(x, key); place != 0 || looks != 0 || ok {
			t.Errorf("%s: Find(%d) = %d, %d, %v", what, key, place, looks, ok)
		}
		if y, place, e := treap.Insert(x, key, 7); e != api.ErrArg || place != 0 || !same(y, x) {
			t.Errorf("%s: Insert(%d) = %v, %d, %d", what, key, y, place, int(e))
		}
		if y, e := treap.Delete(x, key); e != api.ErrArg || !same(y, x) {
			t.Errorf("%s: Delete(%d) = %v, %d", what, key, y, int(e))
		}
		if y, e := treap.Hang(x, key, none); e != api.ErrArg || !same(y, x) {
			t.Errorf("%s: Hang(%d) = %v, %d", what, key, y, int(e))
		}
	}
}

// pair is a key and its priority.
type pair struct {
	key  int
	prio uint32
}

// grown is a treap of so many nodes, into which keys came in turn.
func grown(t *testing.T, n int, pairs ...pair) api.Treap {
	t.Helper()
	x, e := treap.Make(n)
	for _, p := range pairs {
		if e == api.OK {
			x, _, e = treap.Insert(x, p.key, p.prio)
		}
	}
	if e != api.OK {
		t.Fatalf("%v in %d nodes: %d", pairs, n, int(e))
	}
	return x
}

// step is the next one of numbers without much order, the same ones each time.
func step(x *uint32, n int) int {
	*x = *x*1664525 + 1013904223
	return int(*x>>16) % n
}

// mixed are so many pairs of keys that rise in no even steps, in no order, some with one priority.
func mixed(x *uint32, n int) []pair {
	var pairs []pair
	key := 0
	for range n {
		pairs = append(pairs, pair{key, []uint32{0, 1, math.MaxUint32, uint32(step(x, 9)), uint32(step(x, 60000)) << 16}[step(x, 5)]})
		key += 1 + step(x, 3)
	}
	shuffle(x, pairs)
	return pairs
}

func shuffle[T any](x *uint32, list []T) {
	for i := range list {
		k := step(x, i+1)
		list[i], list[k] = list[k], list[i]
	}
}

// P9.1: Make, of 0, of 1, of 64, and of each number between; of more, and of fewer than 0.
func TestMake(t *testing.T) {
	for n := range 65 {
		x, e := treap.Make(n)
		want := of(-1, -1)
		for i := range n {
			want.Nodes = append(want.Nodes, freeTo(i+1))
		}
		if n > 0 {
			want.Nodes[n-1].Left, want.Free = -1, 0
		}
		if !same(x, want) || e != api.OK || !treap.Right(x) || len(treap.Keys(x)) != 0 {
			t.Errorf("Make(%d) = %v, %d", n, x, int(e))
		}
	}
	for _, n := range []int{-1, 65, 66, 1 << 20, 1 << 32, math.MaxInt, -2, -64, math.MinInt} {
		if x, e := treap.Make(n); e != api.ErrArg || x.Nodes != nil || x.Root != 0 || x.Free != 0 {
			t.Errorf("Make(%d) = %v, %d", n, x, int(e))
		}
	}
}

// P9.1: what Make answers is the caller's own.
func TestMakeAnswersNewMemory(t *testing.T) {
	x, _ := treap.Make(5)
	clear(x.Nodes)
	if y, _ := treap.Make(5); !same(y, of(-1, 0, freeTo(1), freeTo(2), freeTo(3), freeTo(4), freeTo(-1))) {
		t.Error("an answer is another one, since an earlier one was changed:", y)
	}
}

// P9.1: treaps that may be, written out.
func TestRightOfThoseThatMayBe(t *testing.T) {
	for _, c := range []struct {
		what string
		x    api.Treap
	}{
		{"without nodes", of(-1, -1)},
		{"without nodes, but not nil", api.Treap{Nodes: []api.Node{}, Root: -1, Free: -1}},
		{"one that is free", of(-1, 0, freeTo(-1))},
		{"one that isn't free", of(0, -1, leaf(0, 0))},
		{"the greatest key and priority", of(0, -1, leaf(math.MaxInt, math.MaxUint32))},
		{"with a queue that could not be", of(0, -1, hung(leaf(5, 5), math.MinInt, 99))},
		{"with half a queue", of(0, -1, hung(leaf(5, 5), -1, 0))},
		{"left of it", of(1, -1, leaf(3, 6), node(5, 5, 0, -1))},
		{"right of it", of(1, -1, leaf(7, 6), node(5, 5, -1, 0))},
		{"right of it, of one priority", of(1, -1, leaf(7, 5), node(5, 5, -1, 0))},
		{"0 and the greatest one", of(0, -1, node(0, 0, -1, 1), leaf(math.MaxInt, 0))},
		{"a row to the right, of one priority", of(2, -1, leaf(9, 0), node(8, 0, -1, 0), node(7, 0, -1, 1))},
		{"a row to the left", of(0, -1, node(9, 0, 1, -1), node(8, 1, 2, -1), leaf(7, 2))},
		{"to and fro", of(3, -1, node(2, 1, -1, 2), leaf(5, 3), node(9, 2, 1, -1), node(10, 0, 0, -1))},
		{"priorities from the least to the greatest", of(0, -1, node(4, 0, 1, 2), leaf(3, 1<<31), leaf(5, math.MaxUint32))},
		{"a list in no order", of(1, 2, freeTo(-1), leaf(4, 4), freeTo(3), freeTo(0))},
		{"the chapter's example", of(1, -1, leaf(1, 5), node(2, 3, 0, 2), leaf(3, 9))},
	} {
		if !treap.Right(c.x) || !wantRight(c.x) {
			t.Error(c.what)
		}
		checkCalls(t, c.x)
	}
}

// P9.1: free lists that may not be, written out; all calls are refused.
func TestRefusedForItsFreeList(t *testing.T) {
	key, prio, right, head, tail := freeTo(-1), freeTo(-1), freeTo(-1), freeTo(-1), freeTo(-1)
	key.Key, prio.Prio, right.Right, head.Queue.Head, tail.Queue.Tail = -2, 1, 0, 0, 0
	for _, c := range []struct {
		what string
		x    api.Treap
	}{
		{"zero", api.Treap{}},
		{"leads to itself", of(-1, 0, freeTo(0))},
		{"a circle of two", of(-1, 0, freeTo(1), freeTo(0))},
		{"a circle of three", of(-1, 1, freeTo(1), freeTo(2), freeTo(0))},
		{"a circle behind a beginning", of(-1, 0, freeTo(1), freeTo(2), freeTo(1))},
		{"leads to itself behind a beginning", of(-1, 0, freeTo(1), freeTo(1))},
		{"a circle, and one that isn't free", of(2, 0, freeTo(1), freeTo(0), leaf(5, 5))},

		{"begins behind the last place", of(0, 1, leaf(5, 5))},
		{"begins behind the last place of none", of(-1, 0)},
		{"begins below -1", of(0, -2, leaf(5, 5))},
		{"begins below -1, without nodes", of(-1, -2)},
		{"begins at the least number", of(0, math.MinInt, leaf(5, 5))},
		{"begins at the greatest number", of(0, math.MaxInt, leaf(5, 5))},
		{"goes behind the last place", of(-1, 0, freeTo(1))},
		{"goes far behind the last place", of(-1, 0, freeTo(math.MaxInt))},
		{"goes below -1", of(-1, 0, freeTo(-2))},
		{"goes far below -1", of(-1, 0, freeTo(math.MinInt))},
		{"goes below -1 behind others", of(-1, 1, freeTo(-2), freeTo(0))},

		{"begins at one that isn't empty", of(-1, 0, leaf(5, 5))},
		{"goes over one that isn't empty", of(-1, 0, freeTo(1), leaf(5, 5))},
		{"over a key of 0", of(-1, 0, leaf(0, 0))},
		{"over a key below -1", of(-1, 0, key)},
		{"over a priority", of(-1, 0, prio)},
		{"over what has something right of it", of(-1, 0, right)},
		{"over a queue's Head", of(-1, 0, head)},
		{"over a queue's Tail", of(-1, 0, tail)},
		{"over a zero node", of(-1, 0, api.Node{})},
		{"over a priority at its end", of(-1, 1, prio, freeTo(0))},
		{"over a queue at its end", of(-1, 1, tail, freeTo(0))},

		{"an empty one that isn't of the list", of(-1, -1, freeTo(-1))},
		{"an empty one beside the list", of(-1, 0, freeTo(-1), freeTo(-1))},
		{"an empty one that leads to the list", of(-1, 0, freeTo(-1), freeTo(0))},
		{"one with a key, that is neither of the list nor of the tree", of(-1, -1, leaf(5, 5))},
		{"one beside the tree", of(0, -1, leaf(5, 5), leaf(6, 6))},
		{"one that leads to the tree", of(0, -1, leaf(5, 5), node(6, 4, 0, -1))},
		{"two that lead to each other beside the tree", of(0, -1, leaf(5, 5), node(6, 6, -1, 2), node(7, 7, 1, -1))},
	} {
		if wantRight(c.x) {
			t.Error("it may be:", c.what)
		}
		checkRefused(t, c.what, c.x)
		checkCalls(t, c.x)
	}
}

// P9.1: trees that may not be, written out; all calls are refused.
func TestRefusedForItsTree(t *testing.T) {
	for _, c := range []struct {
		what string
		x    api.Treap
	}{
		{"begins behind the last place", of(1, -1, leaf(5, 5))},
		{"begins behind the last place of none", of(0, -1)},
		{"begins below -1", of(-2, -1)},
		{"begins at the least number", of(math.MinInt, 0, freeTo(-1))},
		{"begins at the greatest number", of(math.MaxInt, 0, freeTo(-1))},
		{"begins at a free one", of(0, 0, freeTo(-1))},
		{"begins at an empty one that isn't of the list", of(0, -1, freeTo(-1))},
		{"begins below another one", of(1, -1, node(5, 5, 1, -1), leaf(3, 6))},
		{"goes to a free one on the left", of(0, 1, node(5, 5, 1, -1), freeTo(-1))},
		{"goes to a free one on the right", of(0, 1, node(5, 5, -1, 1), freeTo(-1))},

		{"Left past the last place", of(0, -1, node(5, 5, 1, -1))},
		{"Left below -1", of(0, -1, node(5, 5, -2, -1))},
		{"the least Left", of(0, -1, node(5, 5, math.MinInt, -1))},
		{"the greatest Left", of(0, -1, node(5, 5, math.MaxInt, -1))},
		{"Right past the last place", of(0, -1, node(5, 5, -1, 1))},
		{"Right below -1", of(0, -1, node(5, 5, -1, -2))},
		{"the least Right", of(0, -1, node(5, 5, -1, math.MinInt))},
		{"the greatest Right", of(0, -1, node(5, 5, -1, math.MaxInt))},
		{"past the last place, further below", of(0, -1, node(5, 5, 1, -1), node(3, 6, -1, 2))},

		{"leads to itself on the left", of(0, -1, node(5, 5, 0, -1))},
		{"leads to itself on the right", of(0, -1, node(5, 5, -1, 0))},
		{"leads to the one above it", of(0, -1, node(5, 5, 1, -1), node(3, 6, -1, 0))},
		{"leads to the top one", of(0, -1, node(5, 5, 1, -1), node(3, 6, 2, -1), node(2, 7, -1, 0))},
		{"one on both sides", of(0, -1, node(5, 5, 1, 1), leaf(3, 6))},
		{"one twice, below two", of(0, -1, node(5, 5, 1, 2), node(3, 6, -1, 3), node(8, 6, 3, -1), leaf(6, 7))},
		{"one twice, below two, and another one not at all", of(0, -1, node(5, 5, 1, 2), node(3, 6, -1, 3), node(8, 6, 3, -1), leaf(4, 7), leaf(9, 9))},

		{"a key of -1", of(0, -1, leaf(-1, 5))},
		{"a key below -1", of(0, -1, leaf(-2, 5))},
		{"the least key", of(0, -1, leaf(math.MinInt, 5))},
		{"a key of -1 left of it", of(1, -1, leaf(-1, 6), node(5, 5, 0, -1))},
		{"a key below -1 left of it", of(1, -1, leaf(-2, 6), node(5, 5, 0, -1))},
		{"two keys below 0", of(1, -1, leaf(-3, 6), node(-2, 5, 0, -1))},
		{"right of a key below 0", of(1, -1, leaf(3, 6), node(-1, 5, -1, 0))},
		{"an equal key on the left", of(0, -1, node(5, 5, 1, -1), leaf(5, 6))},
		{"an equal key on the right", of(0, -1, node(5, 5, -1, 1), leaf(5, 6))},
		{"an equal key of an equal priority", of(0, -1, node(5, 5, -1, 1), leaf(5, 5))},
		{"an equal key further below", of(0, -1, node(5, 5, 1, -1), node(3, 6, -1, 2), leaf(5, 7))},
		{"a greater key on the left", of(0, -1, node(5, 5, 1, -1), leaf(6, 6))},
		{"a lesser key on the right", of(0, -1, node(5, 5, -1, 1), leaf(4, 6))},
		{"a greater key right of one on the left", of(0, -1, node(5, 5, 1, -1), node(3, 6, -1, 2), leaf(6, 7))},
		{"a lesser key left of one on the right", of(0, -1, node(5, 5, -1, 1), node(8, 6, 2, -1), leaf(4, 7))},
		{"a lesser key right of the greatest one", of(0, -1, node(math.MaxInt, 5, -1, 1), leaf(4, 6))},
		{"the greatest key left of it", of(0, -1, node(5, 5, 1, -1), leaf(math.MaxInt, 6))},

		{"one above it by priority, on the left", of(0, -1, node(5, 5, 1, -1), leaf(3, 4))},
		{"one above it by priority, on the right", of(0, -1, node(5, 5, -1, 1), leaf(7, 4))},
		{"one above it by priority 0", of(0, -1, node(5, math.MaxUint32, -1, 1), leaf(7, 0))},
		{"one above it, if priorities had signs it would be below", of(0, -1, node(5, 1<<31, -1, 1), leaf(7, 1<<31-1))},
		{"one above it by key, of one priority", of(0, -1, node(5, 5, 1, -1), leaf(3, 5))},
		{"one above it by key, of priority 0", of(0, -1, node(5, 0, 1, -1), leaf(0, 0))},
		{"one above the top one, further below", of(0, -1, node(5, 5, 1, -1), node(3, 6, 2, -1), leaf(2, 4))},
		{"one above the one that leads to it, below the top one", of(0, -1, node(5, 5, -1, 1), node(8, 8, 2, -1), leaf(7, 6))},
		{"one above by key the one that leads to it", of(0, -1, node(5, 5, -1, 1), node(8, 8, 2, -1), leaf(7, 8))},
	} {
		if wantRight(c.x) {
			t.Error("it may be:", c.what)
		}
		checkRefused(t, c.what, c.x)
		checkCalls(t, c.x)
	}
}

// P9.1: 64 nodes are just so many as may be, free ones, those of a tree, and both; one more is refused.
func TestMostNodes(t *testing.T) {
	for _, n := range []int{63, 64, 65, 66, 200} {
		free, tree, both := of(-1, 0), of(0, -1), of(0, 1)
		for i := range n {
			next := i + 1
			if i == n-1 {
				next = -1
			}
			free.Nodes = append(free.Nodes, freeTo(next))
			tree.Nodes = append(tree.Nodes, node(i, uint32(i), -1, next))
			both.Nodes = append(both.Nodes, freeTo(next))
		}
		both.Nodes[0] = leaf(5, 5)
		for _, x := range []api.Treap{free, tree, both} {
			if treap.Right(x) != (n <= 64) {
				t.Error(n)
			}
			if n > 64 {
				checkRefused(t, "too many nodes", x)
			}
			checkLooks(t, x, near(x))
			checkInsert(t, x, 5, 5)
			checkInsert(t, x, 99, 0)
			checkDelete(t, x, 5)
			checkHang(t, x, 5, none)
		}
	}
}

// few are treaps of so many nodes, each of which is one of those given; Root and Free lead anywhere.
func few(n int, kinds []api.Node, look func(api.Treap)) {
	x := of(0, 0, make([]api.Node, n)...)
	var fill func(k int)
	fill = func(k int) {
		if k < n {
			for _, kind := range kinds {
				x.Nodes[k] = kind
				fill(k + 1)
			}
			return
		}
		for x.Root = -2; x.Root <= n; x.Root++ {
			for x.Free = -2; x.Free <= n; x.Free++ {
				look(x)
			}
		}
	}
	fill(0)
}

// kindsOf are the nodes of these keys and priorities that lead to places of n nodes, or nowhere, or just beside.
func kindsOf(n int, keys []int, prios []uint32, beside bool) []api.Node {
	var kinds []api.Node
	low, high := -1, n-1
	if beside {
		low, high = -2, n
	}
	for _, key := range keys {
		for _, prio := range prios {
			for left := low; left <= high; left++ {
				for right := low; right <= high; right++ {
					kinds = append(kinds, node(key, prio, left, right))
				}
			}
		}
	}
	return kinds
}

// P9.1: which treaps may be, of all of few nodes and of few kinds.
func TestRightOfAllSmall(t *testing.T) {
	one := kindsOf(1, []int{-2, -1, 0, 1}, []uint32{0, 1}, true)
	for _, k := range one {
		one = append(one, hung(k, 0, -1), hung(k, -1, 0))
	}
	for _, c := range []struct {
		n, want int
		kinds   []api.Node
	}{
		{0, 1, nil},
		// The free one; of two keys, two priorities and three queues, the only one.
		{1, 1 + 12, one},
		// Of free ones 2 lists; of one that isn't 2 places by 3 keys by 2 priorities; of two 2 places by 3 by 4.
		{2, 2 + 12 + 24, kindsOf(2, []int{-1, 0, 1, 2}, []uint32{0, 1}, true)},
		// Of free ones 6 lists; of one that isn't 3 places by 2 lists by 3 keys; of two 6 places by 3; of three 6.
		{3, 6 + 18 + 18 + 6, kindsOf(3, []int{-1, 0, 1, 2}, []uint32{0}, false)},
	} {
		right := 0
		few(c.n, c.kinds, func(x api.Treap) {
			want := wantRight(x)
			if got := treap.Right(x); got != want {
				t.Fatalf("Right(%v) = %v", x, got)
			}
			if want {
				right++
			}
		})
		if right != c.want {
			t.Errorf("of %d nodes %d treaps may be, not %d", c.n, right, c.want)
		}
	}
}

// P9.1: all calls, of all treaps that may be of few nodes and of few kinds.
func TestCallsOfAllSmall(t *testing.T) {
	prios := []uint32{0, 1, math.MaxUint32}
	for n := range 4 {
		for _, order := range orders(n) {
			// Of each key: it isn't there, or of one of the priorities, and it has a queue, or none.
			for kinds := range power(5, n) {
				x := of(-1, -1, make([]api.Node, n)...)
				var places []int
				for key, i := range order {
					kind := kinds / power(5, key) % 5
					switch {
					case kind == 4:
						x.Nodes[i], x.Free = freeTo(x.Free), i
						continue
					case kind == 3:
						x.Nodes[i] = hung(leaf(2*key, 1), 0, 0)
					default:
						x.Nodes[i] = leaf(2*key, prios[kind])
					}
					places = append(places, i)
				}
				x.Root = laid(x, places)
				if !treap.Right(x) {
					t.Fatal(x)
				}
				checkCalls(t, x)
			}
		}
	}
}

func power(x, n int) int {
	p := 1
	for range n {
		p *= x
	}
	return p
}

// orders are all in which 0, 1 and so on may stand.
func orders(n int) [][]int {
	if n == 0 {
		return [][]int{nil}
	}
	var all [][]int
	for _, o := range orders(n - 1) {
		for at := range n {
			all = append(all, slices.Insert(slices.Clone(o), at, n-1))
		}
	}
	return all
}

// P9.1: all calls, of treaps of up to 64 nodes, and of those with one number another one.
func TestCallsOfMany(t *testing.T) {
	x := uint32(3)
	for round := range 120 {
		n := []int{1, 2, 4, 9, 20, 63, 64}[round%7]
		y := grown(t, n, mixed(&x, step(&x, n+1))...)
		if round%7 < 5 {
			checkCalls(t, y)
		}
		checkLooks(t, y, near(y))
		for range 200 {
			z := cloned(y)
			at, to := &z.Nodes[step(&x, n)], step(&x, n+3)-2
			switch step(&x, 6) {
			case 0:
				at.Left = to
			case 1:
				at.Right = to
			case 2:
				at.Key = to
			case 3:
				at.Prio = uint32(to + 1)
			case 4:
				z.Root = to
			case 5:
				z.Free = to
			}
			checkLooks(t, z, []int{at.Key})
			checkInsert(t, z, step(&x, 200), uint32(to+2))
			checkDelete(t, z, at.Key)
			checkHang(t, z, at.Key, api.Queue{Head: to})
		}
	}
}

// P9.1: Find, written out: of each key that is there, of those between, of those beside, of one below 0.
func TestFind(t *testing.T) {
	//        4 (1)
	//   2 (3)      8 (2)
	// 0 (9)     6 (5)   max (2)
	//             7 (7)
	x := of(4, 7, leaf(0, 9), node(6, 5, -1, 3), leaf(math.MaxInt, 2), leaf(7, 7), node(4, 1, 5, 6), node(2, 3, 0, -1), node(8, 2, 1, 2), freeTo(-1))
	for key, want := range map[int]found{
		4: {4, 1, true}, 2: {5, 2, true}, 8: {6, 2, true}, 0: {0, 3, true}, 6: {1, 3, true}, math.MaxInt: {2, 3, true}, 7: {3, 4, true},
		1: {0, 3, false}, 3: {0, 2, false}, 5: {0, 3, false}, 9: {0, 3, false}, math.MaxInt - 1: {0, 3, false}, -1: {0, 3, false}, -2: {0, 3, false}, math.MinInt: {0, 3, false},
	} {
		if place, looks, ok := treap.Find(x, key); (found{place, looks, ok}) != want {
			t.Errorf("Find(%d) = %d, %d, %v, not %v", key, place, looks, ok, want)
		}
	}
	for _, empty := range []api.Treap{of(-1, -1), of(-1, 0, freeTo(-1))} {
		for _, key := range []int{-1, 0, 5} {
			if place, looks, ok := treap.Find(empty, key); place != 0 || looks != 0 || ok {
				t.Errorf("Find of an empty one: %d, %d, %v", place, looks, ok)
			}
		}
	}
	if got := treap.Keys(x); !slices.Equal(got, []int{0, 2, 4, 6, 7, 8, math.MaxInt}) {
		t.Error(got)
	}
}

// P9.1: Keys answers memory of its own, each time.
func TestKeysAreTheCallersOwn(t *testing.T) {
	x := grown(t, 5, pair{7, 1}, pair{3, 1}, pair{5, 1})
	clear(treap.Keys(x))
	_ = append(treap.Keys(x), 9)
	if got := treap.Keys(x); !slices.Equal(got, []int{3, 5, 7}) {
		t.Error(got)
	}
}

// P9.1: Insert, written out: into an empty one, of priority 0, of the greatest one, of one that others have; the chapter's example, too.
func TestInsert(t *testing.T) {
	x := of(-1, 2, freeTo(-1), freeTo(0), freeTo(1))
	for _, prio := range []uint32{0, 5, math.MaxUint32} {
		for _, key := range []int{0, 5, math.MaxInt} {
			y, place, e := treap.Insert(x, key, prio)
			if e != api.OK || place != 2 || !same(y, of(2, 1, freeTo(-1), freeTo(0), leaf(key, prio))) {
				t.Errorf("Insert(%d, %d) = %v, %d, %d", key, prio, y, place, int(e))
			}
		}
	}
	if y := grown(t, 3, pair{1, 5}, pair{2, 3}, pair{3, 9}); !same(y, of(1, -1, leaf(1, 5), node(2, 3, 0, 2), leaf(3, 9))) {
		t.Error("2 on top:", y)
	}
	y := of(0, 3, node(4, 5, 1, 2), leaf(2, 6), leaf(6, 5), freeTo(-1))
	for _, c := range []struct {
		what string
		pair pair
		want api.Treap
	}{
		{"on top, of priority 0", pair{5, 0}, of(3, -1, node(4, 5, 1, -1), leaf(2, 6), leaf(6, 5), node(5, 0, 0, 2))},
		{"on top of all, on their right", pair{9, 1}, of(3, -1, node(4, 5, 1, 2), leaf(2, 6), leaf(6, 5), node(9, 1, 0, -1))},
		{"on top of all, of the top one's priority", pair{0, 5}, of(3, -1, node(4, 5, 1, 2), leaf(2, 6), leaf(6, 5), node(0, 5, -1, 0))},
		{"on top between, of the top one's priority", pair{3, 5}, of(3, -1, node(4, 5, -1, 2), leaf(2, 6), leaf(6, 5), node(3, 5, 1, 0))},
		{"below, of the top one's priority", pair{5, 5}, of(0, -1, node(4, 5, 1, 3), leaf(2, 6), leaf(6, 5), node(5, 5, -1, 2))},
		{"below two, of their priority", pair{7, 5}, of(0, -1, node(4, 5, 1, 2), leaf(2, 6), node(6, 5, -1, 3), leaf(7, 5))},
		{"of the greatest priority", pair{5, math.MaxUint32}, of(0, -1, node(4, 5, 1, 2), leaf(2, 6), node(6, 5, 3, -1), leaf(5, math.MaxUint32))},
		{"of the greatest key and priority", pair{math.MaxInt, math.MaxUint32}, of(0, -1, node(4, 5, 1, 2), leaf(2, 6), node(6, 5, -1, 3), leaf(math.MaxInt, math.MaxUint32))},
		{"above one, by key", pair{1, 6}, of(0, -1, node(4, 5, 3, 2), leaf(2, 6), leaf(6, 5), node(1, 6, -1, 1))},
		{"below one, by key", pair{3, 6}, of(0, -1, node(4, 5, 1, 2), node(2, 6, -1, 3), leaf(6, 5), leaf(3, 6))},
	} {
		z, place, e := treap.Insert(y, c.pair.key, c.pair.prio)
		if e != api.OK || place != 3 || !same(z, c.want) {
			t.Errorf("%s: %v, %d, %d", c.what, z, place, int(e))
		}
	}
}

// P9.1: Insert keeps the queues of all others, and that of the one that comes is empty.
func TestInsertKeepsQueues(t *testing.T) {
	x := of(0, 2, hung(node(4, 5, 1, -1), 6, 7), hung(leaf(2, 6), 8, 9), freeTo(-1))
	y, _, e := treap.Insert(x, 3, 0)
	if e != api.OK || !same(y, of(2, -1, hung(leaf(4, 5), 6, 7), hung(leaf(2, 6), 8, 9), node(3, 0, 1, 0))) {
		t.Error(y, int(e))
	}
}

// P9.1: Insert's errors, in their order: a key below 0, a key that is there, no free node.
func TestInsertRefused(t *testing.T) {
	some := grown(t, 3, pair{4, 1}, pair{6, 1})
	full := grown(t, 2, pair{4, 1}, pair{6, 1})
	all := of(-1, -1)
	for i := range 64 {
		all.Nodes = append(all.Nodes, leaf(i*2, uint32(i%7)))
	}
	var places []int
	for i := range all.Nodes {
		places = append(places, i)
	}
	all.Root = laid(all, places)
	for _, c := range []struct {
		what string
		x    api.Treap
		key  int
		want api.Errno
	}{
		{"of -1", some, -1, api.ErrArg},
		{"of the least key", some, math.MinInt, api.ErrArg},
		{"of -1, into a full one", full, -1, api.ErrArg},
		{"of -2, into one without nodes", of(-1, -1), -2, api.ErrArg},
		{"of the top one's key", some, 4, api.ErrThere},
		{"of another one's key", some, 6, api.ErrThere},
		{"of a key that is there, into a full one", full, 6, api.ErrThere},
		{"of a key that is there, into one of 64", all, 64, api.ErrThere},
		{"into a full one", full, 5, api.ErrFull},
		{"of the greatest key, into a full one", full, math.MaxInt, api.ErrFull},
		{"into one of 64", all, 65, api.ErrFull},
		{"into one without nodes", of(-1, -1), 0, api.ErrFull},
	} {
		for _, prio := range []uint32{0, 1, math.MaxUint32} {
			if y, place, e := treap.Insert(c.x, c.key, prio); e != c.want || place != 0 || !same(y, c.x) {
				t.Errorf("%s: %v, %d, %d", c.what, y, place, int(e))
			}
		}
		checkInsert(t, c.x, c.key, 3)
	}
}

// P9.1: Delete, written out: of the top one, of one below, of the only one, of one with a queue, of a key that isn't there.
func TestDelete(t *testing.T) {
	x := of(2, 6, leaf(1, 9), node(3, 2, 0, 4), node(5, 1, 1, 3), hung(node(8, 3, 5, -1), 7, 7), leaf(4, 9), leaf(7, 4), freeTo(-1))
	n := x.Nodes
	for _, c := range []struct {
		what string
		key  int
		want api.Treap
	}{
		// 7 is above 4: so it goes between 8 and 4.
		{"the top one", 5, of(1, 2, n[0], node(3, 2, 0, 3), freeTo(6), n[3], n[4], node(7, 4, 4, -1), n[6])},
		{"one with two below", 3, of(2, 1, node(1, 9, -1, 4), freeTo(6), node(5, 1, 0, 3), n[3], n[4], n[5], n[6])},
		{"one with none below, on the left", 1, of(2, 0, freeTo(6), node(3, 2, -1, 4), n[2], n[3], n[4], n[5], n[6])},
		{"one with none below, on the right", 4, of(2, 4, n[0], node(3, 2, 0, -1), n[2], n[3], freeTo(6), n[5], n[6])},
		{"one left of one with a queue", 7, of(2, 5, n[0], n[1], n[2], hung(leaf(8, 3), 7, 7), n[4], freeTo(6), n[6])},
	} {
		if y, e := treap.Delete(x, c.key); e != api.OK || !same(y, c.want) {
			t.Errorf("%s: %v, %d, not %v", c.what, y, int(e), c.want)
		}
	}
	for key, want := range map[int]api.Errno{8: api.ErrThere, 0: api.ErrNone, 2: api.ErrNone, 6: api.ErrNone, 9: api.ErrNone, -1: api.ErrNone, -2: api.ErrNone, math.MinInt: api.ErrNone, math.MaxInt: api.ErrNone} {
		if y, e := treap.Delete(x, key); e != want || !same(y, x) {
			t.Errorf("Delete(%d) = %v, %d", key, y, int(e))
		}
	}
	if y, e := treap.Delete(of(0, -1, leaf(0, 0)), 0); e != api.OK || !same(y, of(-1, 0, freeTo(-1))) {
		t.Error("the only one:", y, int(e))
	}
	if y, e := treap.Delete(of(1, 0, freeTo(-1), leaf(math.MaxInt, math.MaxUint32)), math.MaxInt); e != api.OK || !same(y, of(-1, 1, freeTo(-1), freeTo(0))) {
		t.Error("the only one, beside a free one:", y, int(e))
	}
	for _, empty := range []api.Treap{of(-1, -1), of(-1, 0, freeTo(-1))} {
		for _, key := range []int{-1, 0, 5} {
			if y, e := treap.Delete(empty, key); e != api.ErrNone || !same(y, empty) {
				t.Errorf("Delete(%d) of an empty one: %v, %d", key, y, int(e))
			}
		}
	}
}

// P9.1: Delete of one with any queue but -1, -1 is refused; when that hangs there again, it goes.
func TestDeleteOfOneWithAQueue(t *testing.T) {
	x := grown(t, 4, pair{4, 1}, pair{6, 2}, pair{2, 2})
	for _, q := range []api.Queue{{}, {Head: -1}, {Tail: -1}, {Head: 5, Tail: 5}, {Head: -2, Tail: -2}, {Head: -1, Tail: -2}, {Head: math.MinInt, Tail: math.MaxInt}} {
		for _, key := range []int{2, 4, 6} {
			y, e := treap.Hang(x, key, q)
			if z, f := treap.Delete(y, key); e != api.OK || f != api.ErrThere || !same(z, y) {
				t.Errorf("Delete of one with the queue %v: %v, %d", q, z, int(f))
			}
			y, _ = treap.Hang(y, key, none)
			if z, e := treap.Delete(y, key); e != api.OK || len(treap.Keys(z)) != 2 {
				t.Errorf("Delete of one whose queue went: %v, %d", z, int(e))
			}
			for _, other := range []int{2, 4, 6} {
				y, _ := treap.Hang(x, other, q)
				if z, e := treap.Delete(y, key); other != key && (e != api.OK || z.Nodes[at(y, other)].Queue != q) {
					t.Errorf("Delete beside one with a queue: %v, %d", z, int(e))
				}
			}
		}
	}
}

// P9.1: Hang, of each key that is there, any queue; of keys that aren't.
func TestHang(t *testing.T) {
	x := grown(t, 4, pair{4, 1}, pair{6, 2}, pair{2, 2})
	for _, q := range []api.Queue{{}, none, {Head: 2, Tail: 5}, {Head: -1, Tail: 3}, {Head: math.MinInt, Tail: math.MaxInt}} {
		for _, key := range []int{2, 4, 6} {
			want := cloned(x)
			want.Nodes[map[int]int{4: 0, 6: 1, 2: 2}[key]].Queue = q
			if y, e := treap.Hang(x, key, q); e != api.OK || !same(y, want) || !treap.Right(y) {
				t.Errorf("Hang(%d, %v) = %v, %d", key, q, y, int(e))
			}
		}
		for _, key := range []int{0, 1, 3, 5, 7, -1, -2, math.MaxInt, math.MinInt} {
			if y, e := treap.Hang(x, key, q); e != api.ErrNone || !same(y, x) {
				t.Errorf("Hang(%d, %v) = %v, %d", key, q, y, int(e))
			}
		}
		for _, empty := range []api.Treap{of(-1, -1), of(-1, 0, freeTo(-1))} {
			if y, e := treap.Hang(empty, -1, q); e != api.ErrNone || !same(y, empty) {
				t.Error("of an empty one:", y, int(e))
			}
		}
	}
}

// P9.1: a call hangs on its arguments alone, and changes none of what was answered earlier.
func TestAnswersStay(t *testing.T) {
	x := grown(t, 5, pair{4, 5}, pair{6, 7}, pair{2, 8})
	was := cloned(x)
	a, _, _ := treap.Insert(x, 5, 1)
	b, _, _ := treap.Insert(x, 7, 9)
	c, _ := treap.Delete(x, 4)
	d, _ := treap.Hang(x, 4, api.Queue{Head: 1, Tail: 1})
	e, _, _ := treap.Insert(a, 3, 0)
	for i, w := range []struct {
		x    api.Treap
		keys []int
		root int
	}{{x, []int{2, 4, 6}, 0}, {a, []int{2, 4, 5, 6}, 3}, {b, []int{2, 4, 6, 7}, 0}, {c, []int{2, 6}, 1}, {d, []int{2, 4, 6}, 0}, {e, []int{2, 3, 4, 5, 6}, 4}} {
		if !slices.Equal(treap.Keys(w.x), w.keys) || w.x.Root != w.root {
			t.Error(i, w.x)
		}
	}
	if !same(x, was) {
		t.Error(x, was)
	}
}

// shape is a tree without its places: keys, priorities and queues of the nodes, from each one to those below it.
func shape(x api.Treap, i int) []api.Node {
	if i == -1 {
		return []api.Node{freeTo(-1)}
	}
	n := x.Nodes[i]
	left, right := n.Left, n.Right
	n.Left, n.Right = 0, 0
	return slices.Concat([]api.Node{n}, shape(x, left), shape(x, right))
}

// P9.2: in which order ever keys come, who is above whom is the same.
func TestJustOneTree(t *testing.T) {
	for _, prios := range [][]uint32{{0, 0, 0, 0, 0}, {5, 4, 3, 2, 1}, {1, 2, 3, 4, 5}, {3, 1, 3, 1, 3}, {2, 2, 1, 2, 2}, {7, 7, math.MaxUint32, 0, 1 << 31}} {
		var want []api.Node
		for _, order := range orders(5) {
			var pairs []pair
			for _, k := range order {
				pairs = append(pairs, pair{k * 3, prios[k]})
			}
			x := grown(t, 6, pairs...)
			if want == nil {
				want = shape(x, x.Root)
			}
			if got := shape(x, x.Root); !slices.Equal(got, want) {
				t.Fatalf("of %v the tree is %v, not %v", pairs, got, want)
			}
			// The first one of the list goes to who comes first.
			for k, p := range pairs {
				if x.Nodes[k].Key != p.key || x.Nodes[k].Prio != p.prio {
					t.Fatalf("at %d is %v, not %v", k, x.Nodes[k], p)
				}
			}
		}
	}
}

// P9.2: in which order ever keys went, who is above whom is the same as if they had never come.
func TestOrderOfGoing(t *testing.T) {
	for _, prios := range [][]uint32{{0, 0, 0, 0, 0, 0}, {3, 1, 3, 1, 3, 1}, {6, 5, 4, 3, 2, 1}, {2, 2, 1, 0, 2, 2}} {
		for _, order := range orders(5) {
			var pairs []pair
			for k, prio := range prios {
				pairs = append(pairs, pair{k, prio})
			}
			x := grown(t, 6, pairs...)
			for goes, key := range order {
				y, e := treap.Delete(x, key)
				if e != api.OK || y.Free != key {
					t.Fatal(y, int(e))
				}
				x = y
				var left []pair
				for _, p := range pairs {
					if !slices.Contains(order[:goes+1], p.key) {
						left = append(left, p)
					}
				}
				z := grown(t, 6, left...)
				if got, want := shape(x, x.Root), shape(z, z.Root); !slices.Equal(got, want) {
					t.Fatalf("without %v the tree is %v, not %v", order[:goes+1], got, want)
				}
			}
		}
	}
}

// P9.2: a key that came and went leaves all as it was, also the places, the free list and the queues, wherever it lay.
func TestCameAndWent(t *testing.T) {
	x := uint32(11)
	for n := 1; n <= 64; n++ {
		y := grown(t, n, mixed(&x, step(&x, n))...)
		// Some go, so that the list isn't in the order of the places; others get a queue.
		for _, key := range treap.Keys(y) {
			switch step(&x, 4) {
			case 0:
				y, _ = treap.Delete(y, key)
			case 1:
				y, _ = treap.Hang(y, key, api.Queue{Head: key, Tail: n})
			}
		}
		for key := range 3*n + 2 {
			for _, prio := range []uint32{0, 1, 4, 1 << 31, math.MaxUint32} {
				came, place, e := treap.Insert(y, key, prio)
				if e == api.ErrThere && slices.Contains(treap.Keys(y), key) {
					continue
				}
				went, f := treap.Delete(came, key)
				if e != api.OK || f != api.OK || place != y.Free || !same(went, y) {
					t.Fatalf("%d, %d came to %v and went: %v, %d, %d", key, prio, y, went, int(e), int(f))
				}
			}
		}
	}
}

// P9.2: keys that came all, and went the other way round, leave all as it was.
func TestAllCameAndWent(t *testing.T) {
	x := uint32(12)
	for n := range 65 {
		empty := grown(t, n)
		pairs := mixed(&x, n)
		y := empty
		var were []api.Treap
		for _, p := range pairs {
			were = append(were, y)
			y, _, _ = treap.Insert(y, p.key, p.prio)
		}
		if len(treap.Keys(y)) != n || y.Free != -1 {
			t.Fatal(y)
		}
		for k, p := range slices.Backward(pairs) {
			z, e := treap.Delete(y, p.key)
			if e != api.OK || !same(z, were[k]) {
				t.Fatalf("without %v: %v, %d, not %v", p, z, int(e), were[k])
			}
			y = z
		}
		if !same(y, empty) {
			t.Fatal(y)
		}
	}
}

// model is what a treap must hold: keys, with their priorities, queues and places, and the free list.
type model struct {
	x    api.Treap
	held map[int]api.Node
	at   map[int]int
	free []int
}

// check looks whether a treap is the one that the model's keys make.
func (m *model) check(t *testing.T) {
	t.Helper()
	want := of(-1, -1, make([]api.Node, len(m.x.Nodes))...)
	for _, i := range slices.Backward(m.free) {
		want.Nodes[i], want.Free = freeTo(want.Free), i
	}
	var keys, places []int
	for key := range m.held {
		keys = append(keys, key)
	}
	slices.Sort(keys)
	for _, key := range keys {
		want.Nodes[m.at[key]] = m.held[key]
		places = append(places, m.at[key])
	}
	want.Root = laid(want, places)
	if !same(m.x, want) || !treap.Right(m.x) || !slices.Equal(treap.Keys(m.x), keys) {
		t.Fatalf("%v, not %v", m.x, want)
	}
}

func (m *model) insert(t *testing.T, key int, prio uint32) {
	t.Helper()
	y, place, e := treap.Insert(m.x, key, prio)
	_, there := m.held[key]
	switch {
	case there && e == api.ErrThere && place == 0 && same(y, m.x):
	case there:
		t.Fatal("Insert of a key that is there:", place, int(e))
	case len(m.free) == 0 && e == api.ErrFull && place == 0 && same(y, m.x):
	case len(m.free) == 0 || e != api.OK || place != m.free[0]:
		t.Fatal("Insert:", place, int(e), m.free)
	default:
		m.x, m.free = y, m.free[1:]
		m.held[key], m.at[key] = leaf(key, prio), place
	}
}

func (m *model) delete(t *testing.T, key int) {
	t.Helper()
	y, e := treap.Delete(m.x, key)
	n, there := m.held[key]
	want := api.OK
	if !there {
		want = api.ErrNone
	} else if n.Queue != none {
		want = api.ErrThere
	}
	if e != want || want != api.OK && !same(y, m.x) {
		t.Fatal("Delete:", int(e), int(want))
	}
	if want == api.OK {
		m.x, m.free = y, append([]int{m.at[key]}, m.free...)
		delete(m.held, key)
		delete(m.at, key)
	}
}

func (m *model) hang(t *testing.T, key int, q api.Queue) {
	t.Helper()
	y, e := treap.Hang(m.x, key, q)
	n, there := m.held[key]
	if !there {
		if e != api.ErrNone || !same(y, m.x) {
			t.Fatal("Hang of a key that isn't there:", int(e))
		}
		return
	}
	if e != api.OK {
		t.Fatal("Hang:", int(e))
	}
	n.Queue = q
	m.x, m.held[key] = y, n
}

// P9.2: whatever is inserted, deleted and hung, in any order: the tree is always the one of the keys that are there.
func TestInAnyOrder(t *testing.T) {
	for seed, n := range []int{0, 1, 2, 3, 5, 17, 40, 64, 64} {
		x := uint32(seed)
		m := model{grown(t, n), map[int]api.Node{}, map[int]int{}, nil}
		for i := range n {
			m.free = append(m.free, i)
		}
		full := 0
		for round := range 2000 {
			key := step(&x, n+n/2+2)
			// Times in which more comes than goes, and the other way.
			most := 3 + round/250%2*3
			switch c := step(&x, 9); {
			case c < most:
				m.insert(t, key, []uint32{0, 1, math.MaxUint32, uint32(step(&x, 10)), uint32(x)}[step(&x, 5)])
			case c < 7:
				m.delete(t, key)
			case c < 8:
				m.hang(t, key, none)
			default:
				m.hang(t, key, api.Queue{Head: round, Tail: step(&x, 3) - 1})
			}
			if len(m.free) == 0 {
				full++
			}
			m.check(t)
		}
		if full == 0 {
			t.Error("so far no treap was full, of", n)
		}
	}
}
