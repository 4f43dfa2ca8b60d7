package tests

import (
	"math/rand"
	"slices"
	"testing"

	"loop.example/g00783/impl"
)

// Those who are at work at once, and what all of them together did to the tree.

// letGo stands for what is done at AtFree, which is not built yet.
func letGo(t *testing.T, s impl.Shared, task int64) impl.Shared {
	t.Helper()
	for _, at := range impl.HeldBy(s.Nodes, task) {
		nodes, is := impl.Unlocked(s.Nodes, at, task)
		if !is {
			t.Fatalf("%d: not let go", at)
		}
		s.Nodes = nodes
	}
	return s
}

// synced stands for what is done at AtSync, which is not built yet: it is as it was while another one walks who walked when his Count was seen.
func synced(s impl.Shared, task int64, h impl.Hand) impl.Hand {
	if h.Index == int64(len(s.Counts)) {
		h.At = 23
		return h
	}
	switch count := s.Counts[h.Index]; {
	case h.Seen == -1 && (h.Index == task || count%2 == 0):
		h.Index++
	case h.Seen == -1:
		h.Seen = count
	case h.Seen != count:
		h.Index, h.Seen = h.Index+1, -1
	}
	return h
}

// A worker is one of those who are at work at once, with what is still to be asked.
type worker struct {
	hand  impl.Hand
	calls []impl.Call
}

func (w worker) hasWork() bool { return w.hand.At != 0 || len(w.calls) > 0 }

// turn is one step of a worker, with what stands for AtSync and AtFree; it tells the hand ahead of it, and what it rested with, if it came to rest, or 0.
func (w *worker) turn(t *testing.T, s impl.Shared, task int64) (impl.Shared, impl.Hand, int64) {
	t.Helper()
	if w.hand.At == 0 {
		w.hand, w.calls = called(t, w.calls[0]), w.calls[1:]
	}
	before := w.hand
	switch {
	case before.At == 26 && before.Again:
		s, w.hand = letGo(t, s, task), called(t, before.Call)
	case before.At == 26:
		s, w.hand = letGo(t, s, task), impl.Resting(before.Reply, 0)
	case before.At == 22:
		w.hand = synced(s, task, before)
	default:
		s, w.hand = doneOrWaited(t, s, task, before)
	}
	if w.hand.At == 0 {
		return s, before, w.hand.Reply
	}
	return s, before, 0
}

// doneOrWaited is a step of whatever chapter has the place, which must not be refused. Where it waits, all stays as it is.
func doneOrWaited(t *testing.T, s impl.Shared, task int64, h impl.Hand) (impl.Shared, impl.Hand) {
	t.Helper()
	step := impl.MoveStep
	switch {
	case h.At <= 4:
		step = impl.FindStep
	case h.At <= 8:
		step = impl.AddStep
	case h.At <= 13:
		step = impl.CutStep
	}
	after, hand, is := step(s, task, h)
	if !is && hand != h {
		t.Fatalf("task %d, %+v: refused", task, h)
	}
	return after, hand
}

// chanceCall is a call of that code, of one of so many keys.
func chanceCall(chance *rand.Rand, keys, code int64) impl.Call {
	c := impl.Call{Code: code, Key: chance.Int63n(keys) * 37 % 100}
	if code == 2 {
		c.Value = chance.Int63n(1000)
	}
	return c
}

// A crew is all who get, add and cut at once, and what is in the tree by what they did; ever tells of each worker whether the key of its call was there, or not, at some time since it was called. moves is how many of the cuts had another one move up, agains how many checks failed at each place.
type crew struct {
	s           impl.Shared
	workers     []worker
	in          map[int64]int64
	ever        [][2]bool
	cuts, moves int
	agains      map[int64]int
}

// newCrew is six at that tree, each with so many calls.
func newCrew(nodes []impl.Node, calls int, call func() impl.Call) *crew {
	c := crew{s: sharedOf(nodes, 0, 0, 0, 0, 0, 0), workers: make([]worker, 6), in: map[int64]int64{}, ever: make([][2]bool, 6), agains: map[int64]int{}}
	for _, p := range impl.PairsIn(nodes) {
		c.in[p.Key] = p.Value
	}
	for i := range c.workers {
		for range calls {
			c.workers[i].calls = append(c.workers[i].calls, call())
		}
	}
	return &c
}

// did keeps what one turn did to the tree: a key comes in as it is hung, and goes as it is lifted out, or as another one has its place.
func (c *crew) did(t *testing.T, before impl.Hand) {
	t.Helper()
	_, there := c.in[before.Call.Key]
	switch before.At {
	case 8:
		if there {
			t.Errorf("%+v is hung, and was there", before.Call)
		}
		c.in[before.Call.Key] = before.Call.Value
	case 12, 21:
		if !there {
			t.Errorf("%+v goes, and was not there", before.Call)
		}
		delete(c.in, before.Call.Key)
		c.cuts++
	}
	if before.At == 21 {
		c.moves++
	}
}

// look keeps what each worker could have seen.
func (c *crew) look(task int, before impl.Hand) {
	if before.At == 1 {
		c.ever[task] = [2]bool{}
	}
	for i, w := range c.workers {
		_, there := c.in[w.hand.Call.Key]
		c.ever[i][0] = c.ever[i][0] || !there
		c.ever[i][1] = c.ever[i][1] || there
	}
}

// told checks what a worker rested with: a yes or a no that was true at no time is wrong.
func (c *crew) told(t *testing.T, task int, call impl.Call, reply int64) {
	t.Helper()
	if reply != 1 && reply != 2 {
		return
	}
	wasThere := (reply == 1) == (call.Code == 1)
	if call.Code == 3 {
		wasThere = reply == 1
	}
	if there := c.ever[task]; wasThere && !there[1] || !wasThere && !there[0] {
		t.Errorf("%+v is told %d, which was true at no time", call, reply)
	}
}

// asIfDone is the nodes without what a cut has left half done: what is marked and still hangs there, and what is there twice while it moves up.
func (c *crew) asIfDone() []impl.Node {
	nodes := slices.Clone(c.s.Nodes)
	for _, w := range c.workers {
		h := w.hand
		switch {
		case h.At == 12 || h.At == 21:
			nodes[h.Cur].Gone = false
		case h.At >= 22 && h.At <= 24 && h.Up == h.Cur:
			nodes[h.New].Right = nodes[h.Next].Right
		case h.At >= 22 && h.At <= 24:
			nodes[h.Up].Left = nodes[h.Next].Right
		}
	}
	return nodes
}

// inTheTree checks that all and only what came in and did not go is there.
func (c *crew) inTheTree(t *testing.T) {
	t.Helper()
	nodes := c.asIfDone()
	pairs := impl.PairsIn(nodes)
	if !impl.TreeOk(nodes) || len(pairs) != len(c.in) {
		t.Fatalf("%v in %+v", c.in, nodes)
	}
	for _, p := range pairs {
		if value, there := c.in[p.Key]; !there || value != p.Value {
			t.Errorf("%+v is in the tree, and came in with %d, %v", p, value, there)
		}
	}
}

// work has all of them do what they were asked, by turns of whoever comes.
func (c *crew) work(t *testing.T, chance *rand.Rand) {
	t.Helper()
	for turns := 0; slices.ContainsFunc(c.workers, worker.hasWork); turns++ {
		if turns > 20000 {
			t.Fatalf("no end: %+v", c.workers)
		}
		task := chance.Intn(len(c.workers))
		w := &c.workers[task]
		if !w.hasWork() {
			continue
		}
		after, before, reply := w.turn(t, c.s, int64(task))
		c.s = after
		c.did(t, before)
		c.look(task, before)
		c.told(t, task, before.Call, reply)
		c.inTheTree(t)
		if !before.Again && w.hand.Again {
			c.agains[before.At]++
		}
	}
	c.allIsDone(t)
}

// allIsDone checks what is left behind: nobody walks, and nothing is held.
func (c *crew) allIsDone(t *testing.T) {
	t.Helper()
	if !impl.TreeOk(c.s.Nodes) || len(impl.Walking(c.s.Counts)) != 0 {
		t.Errorf("behind it all: %+v", c.s)
	}
	for _, n := range c.s.Nodes {
		if n.Owner != 0 {
			t.Errorf("%+v is held", n)
		}
	}
}
