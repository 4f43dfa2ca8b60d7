package tests

import (
	"math"
	"math/rand"
	"slices"
	"testing"

	"loop.example/g00783/impl"
)

// What the chapters of steps have in common: they are asked in the same way, and refuse the same.

type stepFunc func(s impl.Shared, task int64, h impl.Hand) (impl.Shared, impl.Hand, bool)

// A stepChapter is the steps of one chapter: the program's, what the document says of them, and their places. lean, if there is one, turns what chance has chosen toward what it would hardly ever choose.
type stepChapter struct {
	step, words stepFunc
	places      []int64
	lean        func(chance *rand.Rand, s *impl.Shared, h *impl.Hand)
}

var (
	get20 = impl.Call{Code: 1, Key: 20}
	add20 = impl.Call{Code: 2, Key: 20, Value: 7}
	cut20 = impl.Call{Code: 3, Key: 20}
)

// wide is as many nodes and counts as there may be, each node that fullHand names among them, all tags and counts told apart.
func wide() impl.Shared { return wideOf(29) }

// wideOf is wide with so many keys.
func wideOf(keys int) impl.Shared {
	var list []int64
	for i := range int64(keys) {
		list = append(list, (i*37+50)%100)
	}
	nodes := hung(list...)
	for i := range nodes {
		nodes[i].LeftTag, nodes[i].RightTag = int64(100+i), int64(200+i)
	}
	return impl.Shared{Nodes: nodes, Counts: []int64{10, 21, 32, 43, 54, 65}}
}

func sharedOf(nodes []impl.Node, counts ...int64) impl.Shared {
	return impl.Shared{Nodes: nodes, Counts: counts}
}

func cloned(s impl.Shared) impl.Shared {
	return impl.Shared{Nodes: slices.Clone(s.Nodes), Counts: slices.Clone(s.Counts)}
}

func alikeShared(a, b impl.Shared) bool {
	return slices.Equal(a.Nodes, b.Nodes) && slices.Equal(a.Counts, b.Counts)
}

// atWork is fullHand with this call.
func atWork(at int64, c impl.Call) impl.Hand {
	h := fullHand(at)
	h.Call = c
	return h
}

// handNodes is of every number of a node in a Hand.
func handNodes() []handLimit {
	return slices.DeleteFunc(handLimits(), func(l handLimit) bool { return l.most != 29 })
}

func called(t *testing.T, c impl.Call) impl.Hand {
	t.Helper()
	h, code := impl.Called(impl.Resting(0, 0), c)
	if code != impl.CdOk {
		t.Fatalf("%+v: not called, %d", c, code)
	}
	return h
}

// taggedTrees is someTrees as they are, and once more with a tag of its own at each side, some of them at the limit or next to it.
func taggedTrees() [][]impl.Node {
	trees := someTrees()
	for _, nodes := range slices.Clone(trees) {
		nodes = slices.Clone(nodes)
		for i := range nodes {
			nodes[i].LeftTag, nodes[i].RightTag = int64(10000-i), int64(i)
		}
		trees = append(trees, nodes)
	}
	return trees
}

// atLock is a hand whose add or cut has found its place.
func atLock(t *testing.T, s impl.Shared, task int64, c impl.Call) (impl.Shared, impl.Hand) {
	t.Helper()
	s, h, _ := looked(t, s, task, called(t, c))
	if h.At != 5 {
		t.Fatalf("not at the lock: %+v", h)
	}
	return s, h
}

// stepIsRight asks, by the document's words, what every step wants of what it is given, but for the place and the call.
func stepIsRight(s impl.Shared, task int64, h impl.Hand) bool {
	if !impl.NodesOk(s.Nodes) || !impl.CountsOk(s.Counts) || !handByWords(h) || task < 0 || task >= int64(len(s.Counts)) {
		return false
	}
	for _, l := range handNodes() {
		if *l.field(&h) >= int64(len(s.Nodes)) {
			return false
		}
	}
	return true
}

// check checks what one step answers, and that it wrote nothing into what it was given.
func (c stepChapter) check(t *testing.T, name string, s impl.Shared, task int64, h impl.Hand, want impl.Shared, wantHand impl.Hand, wantIs bool) {
	t.Helper()
	given := cloned(s)
	after, hand, is := c.step(s, task, h)
	if is != wantIs || hand != wantHand || !alikeShared(after, want) {
		t.Errorf("%s: task %d, %+v:\n%v %+v %+v, not\n%v %+v %+v", name, task, h, is, hand, after, wantIs, wantHand, want)
	}
	if !alikeShared(s, given) {
		t.Errorf("%s: task %d, %+v: the argument is changed", name, task, h)
	}
}

func (c stepChapter) refuses(t *testing.T, name string, s impl.Shared, task int64, h impl.Hand) {
	t.Helper()
	c.check(t, name, s, task, h, impl.Shared{}, impl.Hand{}, false)
}

func (c stepChapter) waits(t *testing.T, name string, s impl.Shared, task int64, h impl.Hand) {
	t.Helper()
	c.check(t, name, s, task, h, s, h, false)
}

// beginsAnew checks that all is as it was, but that the call begins anew.
func (c stepChapter) beginsAnew(t *testing.T, name string, s impl.Shared, h impl.Hand) {
	t.Helper()
	hand := h
	hand.At, hand.Again = 26, true
	c.check(t, name, s, 1, h, s, hand, true)
}

// done is what is there behind one step, which must not be refused and must not wait.
func (c stepChapter) done(t *testing.T, s impl.Shared, task int64, h impl.Hand) (impl.Shared, impl.Hand) {
	t.Helper()
	after, hand, is := c.step(s, task, h)
	if !is {
		t.Fatalf("task %d, %+v: not done", task, h)
	}
	return after, hand
}

// asWords checks a step against the document's words.
func (c stepChapter) asWords(t *testing.T, name string, s impl.Shared, task int64, h impl.Hand) {
	t.Helper()
	want, hand, is := c.words(s, task, h)
	c.check(t, name, s, task, h, want, hand, is)
}

// A lock is a place where one node of the hand is Locked. first is the first node that may be it; least is a hand with just what the place asks for beside it; behind tells of each code that is taken there where the hand is then.
type lock struct {
	at, first int64
	node      func(h *impl.Hand) *int64
	least     impl.Hand
	behind    map[int64]int64
}

// low is the least hand of that code that is AtLock.
func (l lock) low(code int64) impl.Hand {
	h := l.least
	h.At, h.Call, h.Seen = l.at, map[int64]impl.Call{2: add20, 3: cut20}[code], -1
	return h
}

func (c stepChapter) checkLock(t *testing.T, l lock) {
	t.Run("free", func(t *testing.T) { c.locksWhatIsFree(t, l) })
	t.Run("held", func(t *testing.T) { c.waitsForAnOwner(t, l) })
	t.Run("let go", func(t *testing.T) { c.locksWhatIsLetGo(t, l) })
}

// Each node by each task; that all others are held is no matter.
func (c stepChapter) locksWhatIsFree(t *testing.T, l lock) {
	for node := l.first; node < 30; node++ {
		for task := range int64(6) {
			for _, others := range []int64{0, task + 1, 6 - task} {
				s := wide()
				for i := range s.Nodes {
					s.Nodes[i].Owner = others
				}
				s.Nodes[node].Owner = 0
				want := cloned(s)
				want.Nodes[node].Owner = task + 1
				for _, call := range rightCalls() {
					if l.behind[call.Code] == 0 {
						continue
					}
					h := atWork(l.at, call)
					*l.node(&h) = node
					hand := h
					hand.At = l.behind[call.Code]
					c.check(t, "lock", s, task, h, want, hand, true)
				}
			}
		}
	}
}

// An Owner is in the way whoever he is: another task, the task itself, or one that has no Count; and whether the node is Prev, too, or not.
func (c stepChapter) waitsForAnOwner(t *testing.T, l lock) {
	for node := l.first; node < 7; node++ {
		for owner := int64(1); owner <= 6; owner++ {
			s := sharedOf(withOwner(held(), node, owner), 2, 3, 4, 5)
			for code := range l.behind {
				low := l.low(code)
				high := impl.Hand{At: l.at, Call: low.Call, Cur: 1, Side: 1, Tag: 13, Up: 2, Next: 3, New: 4, Index: 6, Seen: 17, Again: true, Begin: 18, Reply: 2, Out: 19}
				for prev := range int64(7) {
					for _, h := range []impl.Hand{low, high} {
						h.Prev = prev
						*l.node(&h) = node
						for task := range int64(4) {
							c.waits(t, "held", s, task, h)
						}
					}
				}
			}
		}
	}
}

func (c stepChapter) locksWhatIsLetGo(t *testing.T, l lock) {
	for code, place := range l.behind {
		h := l.low(code)
		h.Prev, h.Side = 1, 1
		*l.node(&h) = 2
		s, _ := c.done(t, sharedOf(fiveKeys(), 0, 0, 0), 0, h)
		for range 3 {
			c.waits(t, "held by another", s, 1, h)
			c.waits(t, "held by itself", s, 0, h)
		}
		s, hand := c.done(t, letGo(t, s, 0), 1, h)
		if hand.At != place || !slices.Equal(impl.HeldBy(s.Nodes, 1), []int64{2}) || len(impl.HeldBy(s.Nodes, 0)) != 0 {
			t.Errorf("%+v: %+v", hand, s)
		}
	}
}

// taken is hands at each place with each call that is taken there, with each number of a node 0, and with none.
func (c stepChapter) taken(t *testing.T) []impl.Hand {
	t.Helper()
	var hands []impl.Hand
	for _, at := range c.places {
		before := len(hands)
		for _, call := range []impl.Call{get20, add20, cut20} {
			low := impl.Hand{At: at, Call: call, Seen: -1}
			high := low
			high.Prev, high.Cur, high.Up, high.Next, high.New = 1, 2, 3, 4, 5
			for _, h := range []impl.Hand{low, high} {
				if _, hand, _ := c.words(sharedOf(fiveKeys(), 0, 4), 1, h); hand != (impl.Hand{}) {
					c.asWords(t, "taken", sharedOf(fiveKeys(), 0, 4), 1, h)
					hands = append(hands, h)
				}
			}
		}
		if len(hands) == before {
			t.Fatalf("nothing is taken at %d", at)
		}
	}
	return hands
}

// checkCommon checks what each chapter of steps has in common with the others.
func (c stepChapter) checkCommon(t *testing.T) {
	t.Run("what is not right", c.refusesWhatIsNotRight)
	t.Run("links to no node", c.refusesLinksToNoNode)
	t.Run("hands that are not right", c.refusesWrongHands)
	t.Run("other places", c.refusesOtherPlaces)
	t.Run("numbers of nodes", c.checkNumbersOfNodes)
	t.Run("limits", c.checkLimits)
	t.Run("arguments", c.checkLeaves)
}

func (c stepChapter) refusesWhatIsNotRight(t *testing.T) {
	for _, h := range c.taken(t) {
		for name, nodes := range nodesNotRight() {
			c.refuses(t, name, sharedOf(nodes, 0, 4), 1, h)
		}
		for _, counts := range countsNotRight() {
			for _, task := range []int64{0, 1, 5} {
				c.refuses(t, "counts", sharedOf(fiveKeys(), counts...), task, h)
			}
		}
		for tasks := 1; tasks <= 6; tasks++ {
			for _, task := range noTaskOf(tasks) {
				c.refuses(t, "no such task", sharedOf(fiveKeys(), make([]int64, tasks)...), task, h)
			}
		}
		c.refuses(t, "zero", impl.Shared{}, 0, h)
	}
}

// refusesAheadOfWaiting checks that what is not right goes ahead of waiting, with seven nodes and what one of two tasks has to wait with there.
func (c stepChapter) refusesAheadOfWaiting(t *testing.T, s impl.Shared, waiting impl.Hand) {
	t.Helper()
	c.waits(t, "right", s, 1, waiting)
	for _, task := range noTaskOf(2) {
		c.refuses(t, "no such task", s, task, waiting)
	}
	for _, l := range handLimits() {
		for _, number := range append(l.around(), 7) {
			if h := waiting; !l.has(number) || l.most == 29 && number == 7 {
				*l.field(&h) = number
				c.refuses(t, l.name, s, 1, h)
			}
		}
	}
	for _, call := range append(wrongCalls(), get20) {
		h := waiting
		h.Call = call
		c.refuses(t, "call", s, 1, h)
	}
	counts, nodes := cloned(s), cloned(s)
	counts.Counts[0], nodes.Nodes[6].Owner = 100001, 7
	c.refuses(t, "counts", counts, 1, waiting)
	c.refuses(t, "nodes", nodes, 1, waiting)
}

// A link to no node is refused just where the step would go along it or hang another one there, and so is what would be told of such a node.
func (c stepChapter) refusesLinksToNoNode(t *testing.T) {
	for _, link := range []int64{math.MinInt64, -1, 7, 30, math.MaxInt64} {
		for prev := range int64(7) {
			for side := range int64(2) {
				nodes := fiveKeys()
				nodes[prev] = impl.WithKid(nodes[prev], side, link)
				for _, h := range c.taken(t) {
					h.Prev, h.Cur, h.Side = prev, prev, side
					c.refuses(t, "link", sharedOf(nodes, 3), 0, h)
				}
			}
		}
	}
}

// What is not right in a hand is refused where it is, and, if that is a place of some chapter, at each place of this one.
func (c stepChapter) refusesWrongHands(t *testing.T) {
	for _, h := range wrongHands() {
		c.refuses(t, "hand", wide(), 1, h)
		if h.At < 0 || h.At > 26 {
			continue
		}
		for _, h.At = range c.places {
			c.refuses(t, "hand", wide(), 1, h)
		}
	}
	c.refusesWhatIsWrongInOneNumber(t)
}

// Each hand that is taken is refused with one number that is not right, and nothing else changed.
func (c stepChapter) refusesWhatIsWrongInOneNumber(t *testing.T) {
	for _, taken := range c.taken(t) {
		for _, l := range handLimits() {
			for _, number := range l.around() {
				if h := taken; !l.has(number) {
					*l.field(&h) = number
					c.refuses(t, l.name, wide(), 1, h)
				}
			}
		}
		for _, call := range wrongCalls() {
			h := taken
			h.Call = call
			c.refuses(t, "call", wide(), 1, h)
		}
	}
}

// otherPlaces is each place that the chapter's table does not have, of the other chapters or of none.
func (c stepChapter) otherPlaces() []int64 {
	places := []int64{math.MinInt64, -2, -1, 27, 28, 1<<32 + c.places[0], math.MaxInt64}
	for at := int64(0); at <= 26; at++ {
		if !slices.Contains(c.places, at) {
			places = append(places, at)
		}
	}
	return places
}

func (c stepChapter) refusesOtherPlaces(t *testing.T) {
	for _, at := range c.otherPlaces() {
		for _, call := range rightCalls() {
			c.refuses(t, "place", wide(), 2, atWork(at, call))
			c.refuses(t, "place", sharedOf(impl.Roots(), 0), 0, impl.Hand{At: at, Call: call, Seen: -1})
		}
		c.refuses(t, "place without a call", wide(), 2, impl.Hand{At: at, Seen: -1})
	}
}

// checkNumbersOfNodes checks each number of a node by itself, though the step may not need it: as many as there are is one too many.
func (c stepChapter) checkNumbersOfNodes(t *testing.T) {
	for _, count := range []int64{1, 2, 7, 29, 30} {
		s := sharedOf(manyNodes(int(count)), 4, 6)
		for _, taken := range c.taken(t) {
			for _, l := range handNodes() {
				for _, number := range []int64{0, 1, count - 1, count, count + 1, 29, 30, -1, math.MinInt64, math.MaxInt64, 1 << 32} {
					h := taken
					*l.field(&h) = number
					if number < 0 || number >= count {
						c.refuses(t, l.name, s, 1, h)
						continue
					}
					c.asWords(t, l.name, s, 1, h)
				}
			}
		}
	}
}

// checkLastNodes checks, at each place and with so many nodes or more, each number of a node by itself in a hand that is taken: the last one is taken, too, as many as there are is not.
func (c stepChapter) checkLastNodes(t *testing.T, least int, right impl.Hand) {
	t.Helper()
	for count := least; count <= 30; count++ {
		s, nodes := sharedOf(manyNodes(count), 4, 6), int64(count)
		for _, right.At = range c.places {
			for _, l := range handNodes() {
				last := right
				*l.field(&last) = nodes - 1
				c.done(t, s, 1, last)
				for _, number := range []int64{nodes, nodes + 1, 29, 30, 31, -1, math.MinInt64, math.MaxInt64, 1<<32 + 1} {
					h := right
					if *l.field(&h) = number; number < 0 || number >= nodes {
						c.refuses(t, l.name, s, 1, h)
					}
				}
			}
		}
	}
}

// checkLimits checks each number of a hand at its limits and next to them, with each call, where there is room for one more node and where there is none.
func (c stepChapter) checkLimits(t *testing.T) {
	for _, s := range []impl.Shared{wide(), wideOf(28)} {
		for _, at := range c.places {
			for _, call := range []impl.Call{get20, add20, cut20} {
				for _, l := range handLimits()[1:] {
					for _, number := range l.around() {
						h := atWork(at, call)
						*l.field(&h) = number
						c.asWords(t, l.name, s, 3, h)
						if !l.has(number) {
							c.refuses(t, l.name, s, 3, h)
						}
					}
				}
			}
		}
	}
}

// chanceNodes is right, but for a list that is too long at times, and hardly ever a tree.
func chanceNodes(chance *rand.Rand) []impl.Node {
	nodes := manyNodes(1 + chance.Intn(10))
	if chance.Intn(6) == 0 {
		nodes = manyNodes(28 + chance.Intn(3))
	}
	if chance.Intn(300) == 0 {
		nodes = manyNodes(31)
	}
	count := int64(len(nodes))
	for i := range nodes {
		n := impl.Node{Key: chance.Int63n(6), Value: chance.Int63n(1000), Left: chance.Int63n(count), Right: chance.Int63n(count), Owner: chance.Int63n(7), Gone: chance.Intn(2) == 0, LeftTag: chance.Int63n(10001), RightTag: chance.Int63n(10001)}
		if i == 0 {
			n.Key, n.Value, n.Left, n.Gone = -1, 0, 0, false
		}
		nodes[i] = n
	}
	return nodes
}

func chanceCounts(chance *rand.Rand) []int64 {
	counts := make([]int64, 1+chance.Intn(6))
	for task := range counts {
		counts[task] = chance.Int63n(100001)
		if chance.Intn(10) == 0 {
			counts[task] = 99998 + chance.Int63n(4)
		}
	}
	return counts
}

func (c stepChapter) chanceHand(chance *rand.Rand, nodes int64) impl.Hand {
	h := impl.Hand{Call: impl.Call{Code: 1 + chance.Int63n(3), Key: chance.Int63n(6)}, Again: chance.Intn(2) == 0}
	if h.Call.Code == 2 {
		h.Call.Value = chance.Int63n(1000)
	}
	for _, l := range handLimits() {
		most := l.most
		if most == 29 {
			most = nodes - 1
		}
		*l.field(&h) = l.least + chance.Int63n(most-l.least+1)
		if chance.Intn(80) == 0 {
			around := append(l.around(), nodes)
			*l.field(&h) = around[chance.Intn(len(around))]
		}
	}
	if chance.Intn(20) != 0 {
		h.At = c.places[chance.Intn(len(c.places))]
	}
	return h
}

// checkByChance checks 20000 steps against the document's words, and tells how many of them waited.
func (c stepChapter) checkByChance(t *testing.T, seed int64) (waited int) {
	chance := rand.New(rand.NewSource(seed))
	done, refused := map[int64]int{}, 0
	for range 20000 {
		s := sharedOf(chanceNodes(chance), chanceCounts(chance)...)
		task := chance.Int63n(int64(len(s.Counts)))
		if chance.Intn(20) == 0 {
			task = chance.Int63n(9) - 1
		}
		h := c.chanceHand(chance, int64(len(s.Nodes)))
		if c.lean != nil {
			c.lean(chance, &s, &h)
		}
		want, hand, is := c.words(s, task, h)
		c.check(t, "by chance", s, task, h, want, hand, is)
		switch {
		case is:
			done[h.At]++
			if !impl.SharedOk(want) || !impl.HandOk(hand) {
				t.Errorf("not right then: %+v %+v", want, hand)
			}
		case hand != impl.Hand{}:
			waited++
		default:
			refused++
		}
	}
	for _, at := range c.places {
		if done[at] < 400 || refused < 2000 {
			t.Errorf("%v of 20000 are done and %d refused: too few of one kind", done, refused)
		}
	}
	return waited
}

// checkNewMemory checks that what one step answers shares no memory with what it was given, or with what it answers once more.
func (c stepChapter) checkNewMemory(t *testing.T, s impl.Shared, task int64, h impl.Hand) {
	t.Helper()
	given := cloned(s)
	first, _, _ := c.step(s, task, h)
	want := cloned(first)
	second, _, _ := c.step(s, task, h)
	for i := range second.Nodes {
		second.Nodes[i] = full()
	}
	for i := range second.Counts {
		second.Counts[i] = 77
	}
	if len(first.Nodes) < len(s.Nodes) || len(first.Counts) != len(s.Counts) || !alikeShared(first, want) || !alikeShared(s, given) {
		t.Errorf("%+v: shares memory", h)
	}
}

// checkLeaves checks that nothing is written into what a step is given, nor into the spare room behind it.
func (c stepChapter) checkLeaves(t *testing.T) {
	for _, s := range []impl.Shared{{}, wide(), wideOf(28), sharedOf(fiveKeys(), 0, 100000), sharedOf(held(6, 5, 4, 3, 2, 1, 6), 1, 2), sharedOf(impl.Roots(), 99999), sharedOf(manyNodes(31), 1), sharedOf(fiveKeys(), 1, 2, 3, 4, 5, 6, 7)} {
		leavesNodes(t, s.Nodes, func(nodes []impl.Node) {
			leaves(t, s.Counts, 77, func(counts []int64) {
				given := impl.Shared{Nodes: nodes, Counts: counts}
				impl.SharedOk(given)
				for at := int64(-1); at <= 27; at++ {
					for _, call := range []impl.Call{get20, add20, cut20} {
						for _, task := range []int64{-1, 0, 1, 5, 6} {
							c.step(given, task, atWork(at, call))
							c.step(given, task, impl.Hand{At: at, Call: call, Seen: -1})
						}
					}
				}
			})
		})
	}
}
