package cond_test

import (
	"math"
	"slices"

	"torpor/api"
	"torpor/trial"
)

// words are those of a mutex of that state; the others are to stay as they are.
func words(state int64) [6]int64 {
	return [6]int64{state, -3, 2, least, most, 12}
}

// condition is one with that list; its words, and who claims, are to stay as they are.
func condition(n api.Notify) api.Obj {
	o := trial.Full([6]int64{1, -2, least, 4, most, 6})
	n.Waiters = slices.Clone(n.Waiters)
	o.Notify = n
	return o
}

// with is an object with another list of tickets.
func with(o api.Obj, n api.Notify) api.Obj {
	o.Notify = n
	return o
}

// froms are tickets from which on lists are looked at: behind some of them tickets go round, or a sign would turn.
func froms() []uint32 {
	return []uint32{0, 7, 1<<31 - 1, 1 << 31, greatest - 1000, greatest - 999, greatest - 1, greatest}
}

func waiter(ticket uint32, task int) api.Waiter {
	return api.Waiter{Ticket: ticket, Task: task}
}

// listOf is a list from whose ticket Told on so many are out.
func listOf(told, out uint32, waiters ...api.Waiter) api.Notify {
	return api.Notify{Wait: told + out, Told: told, Waiters: waiters}
}

// waiting are so many tasks, from the number 100 on, each with the next ticket.
func waiting(from uint32, n int) []api.Waiter {
	var l []api.Waiter
	for i := range n {
		l = append(l, waiter(from+uint32(i), 100+i))
	}
	return l
}

// rightLists are lists that may be, from that ticket on: of no ticket, of one and of more, of just so many as may be; of none who waits, of one, and of more.
func rightLists(from uint32) []api.Notify {
	return []api.Notify{
		listOf(from, 0), listOf(from, 1), listOf(from, 2), listOf(from, 999), listOf(from, 1000),
		listOf(from, 1, waiter(from, 1)), listOf(from, 3, waiter(from+1, 4)), listOf(from, 3, waiter(from+2, 0), waiter(from, 5), waiter(from+1, 2)),
		listOf(from, 4, waiter(from+3, math.MaxInt), waiter(from+1, 1)), listOf(from, 1000, waiter(from+999, 1), waiter(from, 2)),
		listOf(from, 20, waiting(from, 11)...), listOf(from, 20, waiting(from, 12)...), listOf(from, 12, waiting(from, 12)...), listOf(from, 1000, waiting(from, 12)...),
	}
}

// wrongLists are lists that may not be: of too many tickets, of too many who wait, of tasks below 0, of tickets that aren't out, of what stands twice.
func wrongLists(from uint32) []api.Notify {
	return []api.Notify{
		listOf(from, 1001), listOf(from, 1<<31), listOf(from, greatest), listOf(from, 1001, waiter(from, 1)),
		listOf(from, 20, waiting(from, 13)...), listOf(from, 1000, waiting(from, 100)...),
		listOf(from, 3, waiter(from, -1)), listOf(from, 3, waiter(from+1, 2), waiter(from, math.MinInt)),
		listOf(from, 0, waiter(from, 1)), listOf(from, 3, waiter(from+3, 1)), listOf(from, 3, waiter(from-1, 1)), listOf(from, 3, waiter(from+1<<31, 1)),
		listOf(from, 3, waiter(from, 1), waiter(from, 2)), listOf(from, 3, waiter(from, 1), waiter(from+1, 0), waiter(from+2, 1)),
	}
}

// lists are both of them.
func lists(from uint32) []api.Notify {
	return append(rightLists(from), wrongLists(from)...)
}

// lefts are numbers of a ticket: itself, and others that are cut to it; some of them are below 0.
func lefts(ticket uint32) []int64 {
	x := int64(ticket)
	return []int64{x, x + 1<<32, x - 1<<32, x + least, x + 1<<62, x + 5<<40, x - 7<<45}
}
