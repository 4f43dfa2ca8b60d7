package tests

import (
	"math/rand"
	"slices"
	"testing"

	"loop.example/g00783/impl"
)

var adds = stepChapter{step: impl.AddStep, words: addByWords, places: []int64{5, 6, 7, 8}, lean: leanToAdds}

// leanToAdds makes it likely that Prev is free, that a check passes, and that the call is an add.
func leanToAdds(chance *rand.Rand, s *impl.Shared, h *impl.Hand) {
	if chance.Intn(2) == 0 {
		h.Call = impl.Call{Code: 2, Key: chance.Int63n(100), Value: chance.Int63n(1000)}
	}
	if h.Prev < 0 || h.Prev >= int64(len(s.Nodes)) {
		return
	}
	prev := &s.Nodes[h.Prev]
	if chance.Intn(2) == 0 {
		prev.Owner = 0
	}
	if chance.Intn(3) != 0 {
		prev.Gone = false
	}
	if chance.Intn(3) != 0 {
		*prev = impl.WithKid(*prev, h.Side, 0)
	}
	if chance.Intn(3) != 0 {
		h.Tag = impl.TagAt(*prev, h.Side)
	}
}

// addByWords does just what the document says.
func addByWords(s impl.Shared, task int64, h impl.Hand) (impl.Shared, impl.Hand, bool) {
	if !stepIsRight(s, task, h) || h.At < 5 || h.At > 8 || h.At == 5 && h.Call.Code == 1 || h.At > 5 && h.Call.Code != 2 {
		return impl.Shared{}, impl.Hand{}, false
	}
	s = cloned(s)
	prev := &s.Nodes[h.Prev]
	kid, tag := &prev.Left, prev.LeftTag
	if h.Side == 1 {
		kid, tag = &prev.Right, prev.RightTag
	}
	switch {
	case h.At == 5 && prev.Owner != 0:
		return s, h, false
	case h.At == 5:
		prev.Owner = task + 1
		h.At = 6
		if h.Call.Code == 3 {
			h.At = 9
		}
	case h.At == 6 && !prev.Gone && *kid == 0 && tag == h.Tag:
		h.At = 7
	case h.At == 6:
		h.At, h.Again = 26, true
	case h.At == 7 && len(s.Nodes) == 30:
		h.At, h.Reply = 26, 3
	case h.At == 7:
		h.At, h.New = 8, int64(len(s.Nodes))
		s.Nodes = append(s.Nodes, impl.Node{Key: h.Call.Key, Value: h.Call.Value})
	case h.Prev == 0 && h.Side == 0 && h.New != 0:
		return impl.Shared{}, impl.Hand{}, false
	default:
		*kid = h.New
		h.At, h.Reply = 26, 1
	}
	return s, h, true
}

func onlyAdds() []impl.Call {
	return slices.DeleteFunc(rightCalls(), func(c impl.Call) bool { return c.Code != 2 })
}

func TestLockOfPrev(t *testing.T) {
	adds.checkLock(t, lock{at: 5, node: func(h *impl.Hand) *int64 { return &h.Prev }, behind: map[int64]int64{2: 6, 3: 9}})
}

// A lock asks for nothing but an Owner: not whether the node is Gone, what hangs there, or what tag.
func TestLockAsksForAnOwnerAlone(t *testing.T) {
	nodes := held()
	want := withOwner(nodes, 6, 2)
	for side := range int64(2) {
		for _, tag := range []int64{0, 16, 26, 10000} {
			h := impl.Hand{At: 5, Call: add20, Prev: 6, Side: side, Tag: tag, Seen: -1}
			hand := h
			hand.At = 6
			adds.check(t, "a node that is gone", sharedOf(nodes, 0, 100000), 1, h, sharedOf(want, 0, 100000), hand, true)
		}
	}
}

// A get takes hold of nothing: it is refused, and does not wait.
func TestAGetIsRefused(t *testing.T) {
	for _, owner := range []int64{0, 1, 2, 6} {
		for prev := range int64(7) {
			s := sharedOf(withOwner(held(), prev, owner), 2, 3)
			for at := int64(5); at <= 8; at++ {
				for _, key := range []int64{0, 20, 99} {
					adds.refuses(t, "a get", s, 1, impl.Hand{At: at, Call: impl.Call{Code: 1, Key: key}, Prev: prev, Seen: -1})
				}
			}
		}
	}
}

func TestOnlyAnAddIsTakenBehindTheLock(t *testing.T) {
	for _, s := range []impl.Shared{wide(), wideOf(28), wideOf(17)} {
		for at := int64(6); at <= 8; at++ {
			for _, c := range rightCalls() {
				if _, _, is := impl.AddStep(s, 2, atWork(at, c)); is != (c.Code == 2) {
					t.Errorf("%+v at %d: %v", c, at, is)
				}
				if c.Code != 2 {
					adds.refuses(t, "no add", s, 2, atWork(at, c))
				}
			}
		}
	}
}

// aCheck is a node with its side free and its tag as it was seen, all the rest of it as full as may be, and the hand that has come to check it.
func aCheck(prev, side, tag int64) (impl.Shared, impl.Hand) {
	nodes := held(1, 2, 3, 4, 5, 6, 1)
	nodes[6].Gone = false
	for other := range int64(2) {
		if prev != 0 || other == 1 {
			nodes[prev] = impl.WithKid(nodes[prev], other, 4)
		}
	}
	nodes[prev] = impl.WithKid(nodes[prev], side, 0)
	if nodes[prev].LeftTag, nodes[prev].RightTag = 77, tag; side == 0 {
		nodes[prev].LeftTag, nodes[prev].RightTag = tag, 77
	}
	return sharedOf(nodes, 0, 0), impl.Hand{At: 6, Call: add20, Prev: prev, Cur: 5, Side: side, Tag: tag, Up: 4, Next: 3, New: 2, Index: 6, Seen: 17, Begin: 18, Reply: 2, Out: 19}
}

// eachCheck goes through either side of each node, and tags at their limits and between.
func eachCheck(do func(s impl.Shared, h impl.Hand)) {
	for prev := range int64(7) {
		for side := range int64(2) {
			for _, tag := range []int64{0, 1, 78, 9999, 10000} {
				do(aCheck(prev, side, tag))
			}
		}
	}
}

func TestCheckOfAllAsItWas(t *testing.T) {
	eachCheck(func(s impl.Shared, h impl.Hand) {
		for _, again := range []bool{false, true} {
			h.Again = again
			hand := h
			hand.At = 7
			adds.check(t, "as it was", s, 1, h, s, hand, true)
			for owner := range int64(7) {
				other := sharedOf(withOwner(s.Nodes, h.Prev, owner), 0, 0)
				adds.check(t, "whoever has it", other, 1, h, other, hand, true)
			}
		}
	})
}

func TestCheckOfAPrevThatIsGone(t *testing.T) {
	eachCheck(func(s impl.Shared, h impl.Hand) {
		if h.Prev != 0 {
			s.Nodes[h.Prev].Gone = true
			adds.beginsAnew(t, "gone", s, h)
		}
	})
}

func TestCheckOfASideThatIsNotFree(t *testing.T) {
	eachCheck(func(s impl.Shared, h impl.Hand) {
		if h.Prev == 0 && h.Side == 0 {
			return
		}
		for kid := int64(1); kid < 7; kid++ {
			s.Nodes[h.Prev] = impl.WithKid(s.Nodes[h.Prev], h.Side, kid)
			adds.beginsAnew(t, "a kid", s, h)
		}
	})
}

// Any other tag is no longer the one that was seen, a greater one or a less one.
func TestCheckOfAnotherTag(t *testing.T) {
	eachCheck(func(s impl.Shared, h impl.Hand) {
		own := h.Tag
		for _, tag := range []int64{own - 1, own + 1, own + 2, 0, 77, 5000, 10000, own ^ 1<<8} {
			if h.Tag = tag; tag != own && tag >= 0 && tag <= 10000 {
				adds.beginsAnew(t, "another tag", s, h)
			}
		}
	})
}

// Behind a check that failed, nothing is told of it a second time: Again stays.
func TestCheckFailsAgain(t *testing.T) {
	s, h := aCheck(2, 1, 5)
	s.Nodes[2].RightTag, s.Nodes[2].Gone, s.Nodes[2].Right = 6, true, 3
	adds.beginsAnew(t, "all at once", s, h)
	h.Again = true
	adds.beginsAnew(t, "all at once, anew", s, h)
}

// The new node is the last one, with the Key and the Value and nothing else, and hangs nowhere yet.
func TestMakeANode(t *testing.T) {
	for count := 17; count <= 29; count++ {
		s := wideOf(count - 1)
		for _, c := range onlyAdds() {
			want, hand := cloned(s), atWork(8, c)
			want.Nodes = append(want.Nodes, impl.Node{Key: c.Key, Value: c.Value})
			hand.New = int64(count)
			adds.check(t, "make", s, 4, atWork(7, c), want, hand, true)
		}
	}
	for count := 1; count <= 29; count++ {
		h := impl.Hand{At: 7, Call: add20, Seen: -1}
		want, hand := sharedOf(append(manyNodes(count), impl.Node{Key: 20, Value: 7}), 5), h
		hand.At, hand.New = 8, int64(count)
		adds.check(t, "make", sharedOf(manyNodes(count), 5), 0, h, want, hand, true)
	}
}

// Whether a key is there, and whether the check would pass, is asked elsewhere.
func TestMakeAsksForRoomAlone(t *testing.T) {
	for _, key := range []int64{20, 60, 0} {
		nodes := held(6, 5, 4, 3, 2, 1, 0)
		h := impl.Hand{At: 7, Call: impl.Call{Code: 2, Key: key}, Prev: 6, Tag: 3, New: 2, Seen: -1, Again: true}
		want, hand := sharedOf(append(slices.Clone(nodes), impl.Node{Key: key}), 5), h
		hand.At, hand.New = 8, 7
		adds.check(t, "make", sharedOf(nodes, 5), 0, h, want, hand, true)
	}
}

func TestMakeWhereThereIsNoRoom(t *testing.T) {
	for _, c := range onlyAdds() {
		hand := atWork(26, c)
		hand.Reply = 3
		h := atWork(7, c)
		h.Reply = 0
		adds.check(t, "no room", wide(), 4, h, wide(), hand, true)
		low := impl.Hand{At: 7, Call: c, Seen: -1}
		full := low
		full.At, full.Reply = 26, 3
		adds.check(t, "no room", sharedOf(manyNodes(30), 5), 0, low, sharedOf(manyNodes(30), 5), full, true)
	}
}

// The last node that there is room for can be hung; behind it there is no room.
func TestTheLastNode(t *testing.T) {
	s := wideOf(28)
	h := impl.Hand{At: 7, Call: add20, Prev: 28, Side: 1, Seen: -1}
	s, h = adds.done(t, s, 0, h)
	if h.At != 8 || h.New != 29 || len(s.Nodes) != 30 {
		t.Fatalf("%+v %+v", h, s)
	}
	again := h
	again.At = 7
	full := again
	full.At, full.Reply = 26, 3
	adds.check(t, "one more", s, 0, again, s, full, true)
	want := cloned(s)
	want.Nodes[28].Right = 29
	hand := h
	hand.At, hand.Reply = 26, 1
	adds.check(t, "hang", s, 0, h, want, hand, true)
}

// One link is another one then: both tags of Prev stay, and its other side, and who has hold of it.
func TestHang(t *testing.T) {
	for prev := range int64(30) {
		for side := range int64(2) {
			for _, kid := range []int64{0, 1, 12, 29} {
				for _, c := range []impl.Call{add20, {Code: 2}, {Code: 2, Key: 99, Value: 999}} {
					s := wide()
					s.Nodes[prev].Owner = 3
					h := atWork(8, c)
					h.Prev, h.Side, h.New = prev, side, kid
					want, hand := cloned(s), h
					if want.Nodes[prev].Right = kid; side == 0 {
						want.Nodes[prev].Left, want.Nodes[prev].Right = kid, s.Nodes[prev].Right
					}
					hand.At, hand.Reply = 26, 1
					if prev == 0 && side == 0 && kid != 0 {
						adds.refuses(t, "the root's left", s, 2, h)
						continue
					}
					adds.check(t, "hang", s, 2, h, want, hand, true)
				}
			}
		}
	}
}

// At its limits: tags that are the greatest stay so, and a node that is Gone is hung at all the same.
func TestHangAsksForNothing(t *testing.T) {
	for side := range int64(2) {
		nodes := held()
		nodes[6].LeftTag, nodes[6].RightTag, nodes[6].Owner = 10000, 10000, 6
		h := impl.Hand{At: 8, Call: add20, Prev: 6, Side: side, Tag: 5, New: 4, Seen: -1, Again: true}
		want, hand := slices.Clone(nodes), h
		want[6] = impl.WithKid(want[6], side, 4)
		hand.At, hand.Reply = 26, 1
		adds.check(t, "hang", sharedOf(nodes, 100000), 0, h, sharedOf(want, 100000), hand, true)
	}
}

// adding steps behind the walk till the hand has to let go, or rests, and checks that each step is done at once; behind is done behind each.
func adding(t *testing.T, s impl.Shared, task int64, h impl.Hand, behind func(s impl.Shared)) (impl.Shared, impl.Hand, int) {
	t.Helper()
	steps := 0
	for h.At != 0 && h.At != 26 {
		if steps++; steps > 4 {
			t.Fatalf("%+v: no end", h)
		}
		s, h = adds.done(t, s, task, h)
		if !slices.Equal(impl.HeldBy(s.Nodes, task), []int64{h.Prev}) {
			t.Fatalf("%+v: holds %v", h, impl.HeldBy(s.Nodes, task))
		}
		behind(s)
	}
	return s, h, steps
}

// checkAddedAlone checks an add of one who is alone, all the way.
func checkAddedAlone(t *testing.T, nodes []impl.Node, c impl.Call, task int64) impl.Shared {
	t.Helper()
	s, h, _ := looked(t, sharedOf(nodes, 2, 4, 6), task, called(t, c))
	s, h, steps := adding(t, s, task, h, func(impl.Shared) {})
	want, wantSteps, reply := impl.PairsIn(nodes), 4, int64(1)
	switch {
	case impl.FoundIn(nodes, c.Key) != 0:
		wantSteps, reply = 0, 2
	case len(nodes) == 30:
		wantSteps, reply = 3, 3
	default:
		want = append(want, impl.Pair{Key: c.Key, Value: c.Value})
		slices.SortFunc(want, func(a, b impl.Pair) int { return int(a.Key - b.Key) })
	}
	if h.Reply != reply || h.Again || steps != wantSteps {
		t.Errorf("%+v in %d steps: %+v", c, steps, h)
	}
	s = letGo(t, s, task)
	if !impl.TreeOk(s.Nodes) || !slices.Equal(impl.PairsIn(s.Nodes), want) || len(impl.HeldBy(s.Nodes, task)) != 0 {
		t.Errorf("%+v: %v, not %v", c, impl.PairsIn(s.Nodes), want)
	}
	if len(s.Nodes) != len(nodes) {
		checkNewLeaf(t, nodes, s.Nodes, c)
	}
	return s
}

// checkNewLeaf checks that all is as it was but for one link to one more node, which has no kid.
func checkNewLeaf(t *testing.T, before, after []impl.Node, c impl.Call) {
	t.Helper()
	last := len(before)
	links := 0
	for at, n := range before {
		for side := range int64(2) {
			if impl.KidOf(after[at], side) == int64(last) {
				links++
				n = impl.WithKid(n, side, int64(last))
			}
		}
		if after[at] != n {
			t.Errorf("%+v: %+v, not %+v", c, after[at], n)
		}
	}
	if links != 1 || len(after) != last+1 || after[last] != (impl.Node{Key: c.Key, Value: c.Value}) {
		t.Errorf("%+v, %d links: %+v", c, links, after[last:])
	}
}

func TestWhoAddsAloneHasItInTheTreeThen(t *testing.T) {
	for _, nodes := range taggedTrees() {
		for key := int64(0); key <= 99; key++ {
			for task := range int64(3) {
				checkAddedAlone(t, nodes, impl.Call{Code: 2, Key: key, Value: (key*37 + task) % 1000}, task)
			}
		}
	}
}

// From an empty tree till it is full, and one more; then each key that is there once more.
func TestAddingTillThereIsNoRoom(t *testing.T) {
	chance := rand.New(rand.NewSource(80))
	for range 40 {
		nodes := impl.Roots()
		var pairs []impl.Pair
		for i, key := range chance.Perm(100)[:32] {
			c := impl.Call{Code: 2, Key: int64(key), Value: chance.Int63n(1000)}
			nodes = checkAddedAlone(t, nodes, c, int64(i%3)).Nodes
			if i < 29 {
				pairs = append(pairs, impl.Pair{Key: c.Key, Value: c.Value})
			}
		}
		for _, p := range pairs {
			nodes = checkAddedAlone(t, nodes, impl.Call{Code: 2, Key: p.Key, Value: 1}, 1).Nodes
		}
		slices.SortFunc(pairs, func(a, b impl.Pair) int { return int(a.Key - b.Key) })
		if !slices.Equal(impl.PairsIn(nodes), pairs) {
			t.Errorf("%v, not %v", impl.PairsIn(nodes), pairs)
		}
	}
}

// Two have found the same place: the second one waits, and begins anew then, for the place is taken.
func TestTwoAtOnePlace(t *testing.T) {
	for _, keys := range [][2]int64{{30, 30}, {30, 31}, {31, 30}, {0, 1}, {55, 54}, {99, 98}} {
		s, first := atLock(t, sharedOf(fiveKeys(), 0, 0), 0, impl.Call{Code: 2, Key: keys[0], Value: 1})
		s, second := atLock(t, s, 1, impl.Call{Code: 2, Key: keys[1], Value: 2})
		s, first, _ = adding(t, s, 0, first, func(s impl.Shared) { adds.waits(t, "the second", s, 1, second) })
		s = letGo(t, s, 0)
		s, second = adds.done(t, s, 1, second)
		s, second = adds.done(t, s, 1, second)
		if second.At != 26 || !second.Again || second.Reply != 0 || first.Reply != 1 || len(s.Nodes) != 8 {
			t.Errorf("%v: %+v %+v", keys, first, second)
		}
		nodes := letGo(t, s, 1).Nodes
		if nodes[impl.FoundIn(nodes, keys[0])].Value != 1 {
			t.Errorf("%v: %v", keys, impl.PairsIn(nodes))
		}
		checkAddedAlone(t, nodes, second.Call, 1)
	}
}

// Two at either side of one node are in each other's way just while one has hold of it.
func TestTwoAtBothSides(t *testing.T) {
	s, first := atLock(t, sharedOf(fiveKeys(), 0, 0), 0, impl.Call{Code: 2, Key: 10, Value: 1})
	s, second := atLock(t, s, 1, impl.Call{Code: 2, Key: 30, Value: 2})
	s, first, _ = adding(t, s, 0, first, func(s impl.Shared) { adds.waits(t, "the other side", s, 1, second) })
	s, second, _ = adding(t, letGo(t, s, 0), 1, second, func(impl.Shared) {})
	if first.Reply != 1 || second.Reply != 1 || first.Again || second.Again || len(impl.PairsIn(s.Nodes)) != 7 || s.Nodes[2].Left != 7 || s.Nodes[2].Right != 8 {
		t.Errorf("%+v %+v: %+v", first, second, s.Nodes)
	}
}

// What came and went again where a place was found left a tag: by the link alone, all would be as it was.
func TestTheTagTellsWhatCameAndWent(t *testing.T) {
	for _, bumped := range []bool{false, true} {
		s, h := atLock(t, sharedOf(fiveKeys(), 0, 0), 0, impl.Call{Code: 2, Key: 30})
		s = letGo(t, checkAddedAlone(t, s.Nodes, impl.Call{Code: 2, Key: 25}, 1), 1)
		s.Nodes[7].Gone, s.Nodes[2].Right = true, 0
		if bumped {
			s.Nodes[2] = impl.WithTag(s.Nodes[2], 1)
		}
		s, h = adds.done(t, s, 0, h)
		if s, h = adds.done(t, s, 0, h); h.Again != bumped || (h.At == 7) == bumped {
			t.Errorf("tag one more %v: %+v", bumped, h)
		}
	}
}

// The node where a place was found is cut ahead of the lock: what is hung there would be lost.
func TestThePlaceIsGone(t *testing.T) {
	s, h := atLock(t, sharedOf(fiveKeys(), 0), 0, impl.Call{Code: 2, Key: 30})
	s.Nodes[2].Gone, s.Nodes[1].Left, s.Nodes[1].LeftTag = true, 0, 1
	s, h = adds.done(t, s, 0, h)
	s, h = adds.done(t, s, 0, h)
	if h.At != 26 || !h.Again || len(s.Nodes) != 7 {
		t.Errorf("%+v", h)
	}
}

// By turns of whoever comes: a key is added by the first one, and nobody's key is lost; where there is no room, it is told so.
func TestManyAddAtOnce(t *testing.T) {
	chance := rand.New(rand.NewSource(81))
	agains := 0
	for _, keys := range []int{1, 2, 5, 12, 29, 60} {
		for range 60 {
			adders := make([]worker, 6)
			for i := range adders {
				for range 8 {
					adders[i].calls = append(adders[i].calls, impl.Call{Code: 2, Key: chance.Int63n(int64(keys)) * 5 % 99, Value: chance.Int63n(1000)})
				}
			}
			agains += checkManyAdd(t, chance, adders)
		}
	}
	if agains < 500 {
		t.Errorf("only %d checks failed: too few in each other's way", agains)
	}
}

func checkManyAdd(t *testing.T, chance *rand.Rand, adders []worker) (agains int) {
	t.Helper()
	s := sharedOf(impl.Roots(), 0, 0, 0, 0, 0, 0)
	added := map[int64]int64{}
	for turns := 0; slices.ContainsFunc(adders, worker.hasWork); turns++ {
		task := chance.Intn(len(adders))
		a := &adders[task]
		if turns > 20000 {
			t.Fatalf("no end: %+v", adders)
		}
		if !a.hasWork() {
			continue
		}
		after, before, reply := a.turn(t, s, int64(task))
		s = after
		call := before.Call
		_, there := added[call.Key]
		if a.hand.At == 26 && a.hand.Again {
			agains++
		}
		if reply == 1 {
			if there {
				t.Errorf("%+v is added, and was there", call)
			}
			added[call.Key] = call.Value
		}
		if reply == 2 && impl.FoundIn(s.Nodes, call.Key) == 0 {
			t.Errorf("%+v: told no, and it is not there", call)
		}
		if reply == 3 && len(s.Nodes) != 30 {
			t.Errorf("%+v: no room in %d nodes", call, len(s.Nodes))
		}
		if !impl.TreeOk(s.Nodes) {
			t.Fatalf("no tree: %+v", s.Nodes)
		}
	}
	pairs := impl.PairsIn(s.Nodes)
	for _, p := range pairs {
		if value, there := added[p.Key]; !there || value != p.Value {
			t.Errorf("%+v is in the tree, and was added with %d, %v", p, value, there)
		}
	}
	if len(pairs) != len(added) || len(s.Nodes) != len(added)+1 {
		t.Errorf("%d pairs in %d nodes, of %d added", len(pairs), len(s.Nodes), len(added))
	}
	return agains
}

func TestAddStepAsTheOthers(t *testing.T) { adds.checkCommon(t) }

func TestAddStepByChance(t *testing.T) {
	if waited := adds.checkByChance(t, 82); waited < 400 {
		t.Errorf("only %d of 20000 waited", waited)
	}
}

func TestARefusalGoesAheadOfWaiting(t *testing.T) {
	adds.refusesAheadOfWaiting(t, sharedOf(held(0, 0, 1), 0, 0), impl.Hand{At: 5, Call: add20, Prev: 2, Seen: -1})
}

// A step that does nothing to a list, and one that waits, answer a new one all the same.
func TestAddStepIsNewMemory(t *testing.T) {
	waiting := wide()
	waiting.Nodes[11].Owner = 2
	for at := int64(5); at <= 8; at++ {
		for _, s := range []impl.Shared{wide(), wideOf(28), waiting} {
			adds.checkNewMemory(t, s, 3, atWork(at, add20))
		}
	}
	adds.checkNewMemory(t, wide(), 3, atWork(5, cut20))
	adds.checkNewMemory(t, waiting, 3, atWork(5, cut20))
	s, h := aCheck(2, 1, 5)
	adds.checkNewMemory(t, s, 1, h)
}
