package tests

import (
	"math/rand"
	"slices"
	"testing"

	"loop.example/g00783/impl"
)

var finds = stepChapter{step: impl.FindStep, words: findByWords, places: []int64{1, 2, 3, 4}}

// finding is while a hand is at one of this chapter's places.
func finding(h impl.Hand) bool { return h.At >= 1 && h.At <= 4 }

// looked steps till there is no step of this chapter left, and tells how many there were.
func looked(t *testing.T, s impl.Shared, task int64, h impl.Hand) (impl.Shared, impl.Hand, int64) {
	t.Helper()
	return lookedAhead(t, s, task, h, func(int64, *impl.Shared) {})
}

// lookedAhead is looked, with something done ahead of each step, which are numbered from 1 on.
func lookedAhead(t *testing.T, s impl.Shared, task int64, h impl.Hand, ahead func(number int64, s *impl.Shared)) (impl.Shared, impl.Hand, int64) {
	t.Helper()
	steps := int64(0)
	for finding(h) {
		if steps++; steps > 40 {
			t.Fatalf("%+v: no end", h)
		}
		ahead(steps, &s)
		s, h = finds.done(t, s, task, h)
	}
	return s, h, steps
}

// findByWords does just what the document says.
func findByWords(s impl.Shared, task int64, h impl.Hand) (impl.Shared, impl.Hand, bool) {
	if !stepIsRight(s, task, h) || !finding(h) {
		return impl.Shared{}, impl.Hand{}, false
	}
	s = cloned(s)
	if h.At == 1 || h.At == 4 {
		if s.Counts[task] == 100000 {
			return impl.Shared{}, impl.Hand{}, false
		}
		s.Counts[task]++
	}
	prev := s.Nodes[h.Prev]
	switch h.At {
	case 1:
		h.Prev, h.Side, h.Cur, h.At = 0, 1, 0, 2
	case 2:
		h.Cur = prev.Left
		if h.Side == 1 {
			h.Cur = prev.Right
		}
		if h.Cur == 0 || s.Nodes[h.Cur].Key == h.Call.Key {
			h.At = 3
		} else {
			h.Prev, h.Side = h.Cur, 1
			if h.Call.Key < s.Nodes[h.Cur].Key {
				h.Side = 0
			}
		}
	case 3:
		h.At, h.Tag = 4, prev.LeftTag
		if h.Side == 1 {
			h.Tag = prev.RightTag
		}
	case 4:
		h = endByWords(s, h)
	}
	return s, h, true
}

func endByWords(s impl.Shared, h impl.Hand) impl.Hand {
	switch {
	case h.Call.Code == 1 && h.Cur != 0:
		return impl.Hand{Seen: -1, Reply: 1, Out: s.Nodes[h.Cur].Value}
	case h.Call.Code == 1, h.Call.Code == 2 && h.Cur != 0, h.Call.Code == 3 && h.Cur == 0:
		return impl.Hand{Seen: -1, Reply: 2}
	}
	h.At = 5
	return h
}

func TestSharedThatAreRight(t *testing.T) {
	for _, nodes := range [][]impl.Node{impl.Roots(), fiveKeys(), held(0, 1, 2, 3, 4, 5, 6), hung(50, 20), manyNodes(30), wide().Nodes} {
		for _, counts := range [][]int64{{0}, {100000}, {3, 0}, {1, 2, 3, 4, 5, 6}, {100000, 0, 99999, 1, 100000, 100000}} {
			if s := sharedOf(nodes, counts...); !impl.SharedOk(s) {
				t.Errorf("refused: %+v", s)
			}
		}
	}
}

func TestSharedThatAreNotRight(t *testing.T) {
	if impl.SharedOk(impl.Shared{}) {
		t.Error("the zero Shared is right")
	}
	for name, nodes := range nodesNotRight() {
		for _, counts := range [][]int64{{0}, {1, 2, 3, 4, 5, 6}, nil, {-1}} {
			if impl.SharedOk(sharedOf(nodes, counts...)) {
				t.Errorf("%s: is right with %v", name, counts)
			}
		}
	}
	for _, counts := range countsNotRight() {
		for _, nodes := range [][]impl.Node{impl.Roots(), fiveKeys(), manyNodes(30)} {
			if impl.SharedOk(sharedOf(nodes, counts...)) {
				t.Errorf("%v: are right", counts)
			}
		}
	}
}

// What a step does not name stays, be the hand ever so full.
func TestEnter(t *testing.T) {
	for _, c := range rightCalls() {
		for task := range int64(6) {
			want, hand := wide(), atWork(2, c)
			want.Counts[task]++
			hand.Prev, hand.Side, hand.Cur = 0, 1, 0
			finds.check(t, "enter", wide(), task, atWork(1, c), want, hand, true)
			begun := called(t, c)
			hand = begun
			hand.At, hand.Side = 2, 1
			finds.check(t, "enter from rest", wide(), task, begun, want, hand, true)
		}
	}
}

func TestDownToAKid(t *testing.T) {
	nodes := fiveKeys()
	for _, c := range []struct{ prev, side, key, at, newPrev, newSide, cur int64 }{
		{0, 1, 50, 3, 0, 1, 1},
		{0, 1, 49, 2, 1, 0, 1},
		{0, 1, 51, 2, 1, 1, 1},
		{0, 1, 0, 2, 1, 0, 1},
		{0, 1, 99, 2, 1, 1, 1},
		{0, 0, 50, 3, 0, 0, 0},
		{0, 0, 0, 3, 0, 0, 0},
		{1, 0, 20, 3, 1, 0, 2},
		{1, 0, 19, 2, 2, 0, 2},
		{1, 0, 21, 2, 2, 1, 2},
		{1, 1, 80, 3, 1, 1, 3},
		{1, 1, 79, 2, 3, 0, 3},
		{1, 1, 81, 2, 3, 1, 3},
		{2, 0, 5, 3, 2, 0, 0},
		{2, 1, 25, 3, 2, 1, 0},
		{3, 0, 60, 3, 3, 0, 4},
		{3, 1, 95, 2, 5, 1, 5},
		{5, 1, 95, 3, 5, 1, 0},
		{6, 0, 60, 3, 6, 0, 6},
		{6, 0, 59, 2, 6, 0, 6},
		{6, 1, 50, 3, 6, 1, 1},
	} {
		for code := int64(1); code <= 3; code++ {
			h := impl.Hand{At: 2, Call: impl.Call{Code: code, Key: c.key}, Prev: c.prev, Cur: 4, Side: c.side, Tag: 13, Up: 6, Next: 5, New: 3, Index: 5, Seen: 17, Again: true, Begin: 18, Reply: 3, Out: 19}
			want := h
			want.At, want.Prev, want.Side, want.Cur = c.at, c.newPrev, c.newSide, c.cur
			s := sharedOf(nodes, 7, 100000)
			finds.check(t, "down", s, 0, h, s, want, true)
			finds.check(t, "down at the greatest count", s, 1, h, s, want, true)
		}
	}
}

// The tag is Prev's at Side, and neither that of the other side, nor of Cur, nor of the root.
func TestTagOfPrevAtSide(t *testing.T) {
	for _, tag := range []int64{0, 1, 77, 9999, 10000} {
		for prev := range int64(7) {
			for side := range int64(2) {
				for _, c := range []impl.Call{get20, add20, cut20} {
					nodes := fiveKeys()
					for i := range nodes {
						nodes[i].LeftTag, nodes[i].RightTag = int64(500+i), int64(600+i)
					}
					if side == 0 {
						nodes[prev].LeftTag = tag
					} else {
						nodes[prev].RightTag = tag
					}
					h := impl.Hand{At: 3, Call: c, Prev: prev, Cur: 5, Side: side, Tag: 13, Up: 4, Next: 3, New: 2, Index: 6, Seen: 0, Begin: 20000, Reply: 1, Out: 999}
					want := h
					want.At, want.Tag = 4, tag
					s := sharedOf(nodes, 100000, 7)
					finds.check(t, "tag", s, 0, h, s, want, true)
					finds.check(t, "tag of another task", s, 1, h, s, want, true)
				}
			}
		}
	}
}

func TestExit(t *testing.T) {
	for task := range int64(6) {
		for cur := range int64(30) {
			for _, c := range rightCalls() {
				s, want := wide(), wide()
				want.Counts[task]++
				h := atWork(4, c)
				h.Cur = cur
				hand := h
				hand.At = 5
				switch {
				case c.Code == 1 && cur != 0:
					hand = impl.Hand{Seen: -1, Reply: 1, Out: s.Nodes[cur].Value}
				case c.Code == 1, c.Code == 2 && cur != 0, c.Code == 3 && cur == 0:
					hand = impl.Hand{Seen: -1, Reply: 2}
				}
				finds.check(t, "exit", s, task, h, want, hand, true)
			}
		}
	}
}

func TestExitTellsEachValue(t *testing.T) {
	for _, value := range []int64{0, 1, 500, 998, 999} {
		nodes := fiveKeys()
		nodes[2].Value = value
		s, want := sharedOf(nodes, 1, 5), sharedOf(nodes, 1, 6)
		h := impl.Hand{At: 4, Call: get20, Prev: 1, Cur: 2, Tag: 3, Seen: -1, Begin: 9}
		finds.check(t, "a get", s, 1, h, want, impl.Hand{Seen: -1, Reply: 1, Out: value}, true)
		h.Call = add20
		finds.check(t, "an add", s, 1, h, want, impl.Hand{Seen: -1, Reply: 2}, true)
	}
}

// Of a count nothing is asked but whether there is room for one more: not even whether the task walks.
func TestCountsOfFinding(t *testing.T) {
	for tasks := 1; tasks <= 6; tasks++ {
		for task := range tasks {
			for _, count := range rightCounts {
				counts := withCount([]int64{100000, 3, 0, 99999, 100000, 1}[:tasks], task, count)
				s, want := sharedOf(fiveKeys(), counts...), sharedOf(fiveKeys(), withCount(counts, task, count+1)...)
				for _, c := range []impl.Call{get20, add20, cut20} {
					enter, exit := called(t, c), impl.Hand{At: 4, Call: c, Prev: 1, Cur: 2, Seen: -1}
					if count == 100000 {
						finds.refuses(t, "enter at the greatest count", s, int64(task), enter)
						finds.refuses(t, "exit at the greatest count", s, int64(task), exit)
						continue
					}
					begun := enter
					begun.At, begun.Side = 2, 1
					finds.check(t, "enter", s, int64(task), enter, want, begun, true)
					finds.check(t, "exit", s, int64(task), exit, want, endByWords(s, exit), true)
				}
			}
		}
	}
}

// The last walk that there is room for: it begins at MaxCount less 2 and ends at MaxCount.
func TestTheLastWalk(t *testing.T) {
	s := sharedOf(fiveKeys(), 4, 99998)
	begun, h := finds.done(t, s, 1, called(t, get20))
	if !slices.Equal(impl.Walking(begun.Counts), []int64{1}) {
		t.Errorf("who walks: %v", begun.Counts)
	}
	ended, h, _ := looked(t, begun, 1, h)
	if !slices.Equal(ended.Counts, []int64{4, 100000}) || h != impl.Resting(1, 200) {
		t.Errorf("ended: %v %+v", ended.Counts, h)
	}
	finds.refuses(t, "one more walk", ended, 1, called(t, get20))
	_, h, _ = looked(t, ended, 0, called(t, get20))
	if h != impl.Resting(1, 200) {
		t.Errorf("the other task: %+v", h)
	}
}

// deepTrees is the deepest there are: to the right, to the left, and to and fro. Below the last node of each, there is room for a key.
func deepTrees() [][]impl.Node {
	rising, falling, inward := deepKeys()
	return [][]impl.Node{hung(rising...), hung(falling...), hung(inward...)}
}

// someTrees is of each shape: empty, small, deep, broad, and by chance.
func someTrees() [][]impl.Node {
	trees := append(deepTrees(), impl.Roots(), hung(0), hung(99), hung(50, 20), fiveKeys(), wide().Nodes)
	chance := rand.New(rand.NewSource(7))
	for range 20 {
		var keys []int64
		for _, key := range chance.Perm(100)[:chance.Intn(30)] {
			keys = append(keys, int64(key))
		}
		trees = append(trees, hung(keys...))
	}
	return trees
}

// wayTo is how many nodes are passed on the way to a key, and where that is; 0 where it is not there.
func wayTo(nodes []impl.Node, key int64) (passed, at int64) {
	at = nodes[0].Right
	for at != 0 && nodes[at].Key != key {
		passed++
		if key < nodes[at].Key {
			at = nodes[at].Left
		} else {
			at = nodes[at].Right
		}
	}
	return passed, at
}

// checkLooked checks one who looks alone, all the way: what is found, in how many steps, and that he walks just meanwhile.
func checkLooked(t *testing.T, nodes []impl.Node, c impl.Call, tasks, task int) {
	t.Helper()
	counts := []int64{2, 3, 4, 1, 0, 7}[:tasks]
	counts = withCount(counts, task, 10)
	passed, at := wayTo(nodes, c.Key)
	s, h, steps := lookedAhead(t, sharedOf(nodes, counts...), int64(task), called(t, c), func(number int64, s *impl.Shared) {
		if slices.Contains(impl.Walking(s.Counts), int64(task)) != (number > 1) {
			t.Fatalf("%+v, ahead of step %d: %v", c, number, s.Counts)
		}
	})
	if want := passed + 4; steps != want || steps > impl.DepthOf(nodes)+4 {
		t.Errorf("%+v in %d steps, not %d, where the depth is %d", c, steps, want, impl.DepthOf(nodes))
	}
	if !slices.Equal(s.Nodes, nodes) || !slices.Equal(s.Counts, withCount(counts, task, 12)) {
		t.Errorf("%+v left behind %+v", c, s)
	}
	checkFound(t, nodes, c, at, h)
}

func checkFound(t *testing.T, nodes []impl.Node, c impl.Call, at int64, h impl.Hand) {
	t.Helper()
	if at != impl.FoundIn(nodes, c.Key) {
		t.Fatalf("%d is at %d by the walk, but at %d in the tree", c.Key, at, impl.FoundIn(nodes, c.Key))
	}
	switch {
	case c.Code == 1 && at != 0:
		if h != impl.Resting(1, nodes[at].Value) {
			t.Errorf("%+v, which is there: %+v", c, h)
		}
	case (c.Code == 2) == (at != 0):
		if h != impl.Resting(2, 0) {
			t.Errorf("%+v: %+v", c, h)
		}
	default:
		prev := nodes[h.Prev]
		kid, tag := prev.Left, prev.LeftTag
		if h.Side == 1 {
			kid, tag = prev.Right, prev.RightTag
		}
		if want := (impl.Hand{At: 5, Call: c, Prev: h.Prev, Cur: at, Side: h.Side, Tag: tag, Seen: -1}); h != want || kid != at {
			t.Errorf("%+v: %+v, not %+v", c, h, want)
		}
	}
}

// A get, an add and a cut of each key, there or not, in a tree of each shape, by the first and the last of one and of six.
func TestWhoLooksAloneFindsItJustIfItIsThere(t *testing.T) {
	for _, nodes := range someTrees() {
		for key := int64(0); key <= 99; key++ {
			for _, c := range []impl.Call{{Code: 1, Key: key}, {Code: 2, Key: key, Value: 999 - key}, {Code: 3, Key: key}} {
				for _, who := range [][2]int{{1, 0}, {2, 1}, {6, 0}, {6, 5}} {
					checkLooked(t, nodes, c, who[0], who[1])
				}
			}
		}
	}
}

// There are keys for which it takes as many steps as the tree is deep, and 4; for none it takes more.
func TestDepthAndFourIsMet(t *testing.T) {
	for i, nodes := range append(deepTrees(), impl.Roots(), hung(50), fiveKeys()) {
		most := int64(0)
		for key := int64(0); key <= 99; key++ {
			_, _, steps := looked(t, sharedOf(nodes, 0), 0, called(t, impl.Call{Code: 1, Key: key}))
			most = max(most, steps)
		}
		if want := []int64{33, 33, 33, 4, 5, 7}[i]; most != want || want != impl.DepthOf(nodes)+4 {
			t.Errorf("%d steps, not %d, where the depth is %d", most, want, impl.DepthOf(nodes))
		}
	}
}

// lookedWith looks in fiveKeys, alone, but for what changes the nodes ahead of that step (from 1 on).
func lookedWith(t *testing.T, c impl.Call, before int64, change func(n []impl.Node)) impl.Hand {
	t.Helper()
	_, h, _ := lookedAhead(t, sharedOf(fiveKeys(), 0), 0, called(t, c), func(number int64, s *impl.Shared) {
		if number == before {
			change(s.Nodes)
		}
	})
	return h
}

// The steps to 20 are: enter, down to 50, down to 20, its tag, exit. It goes ahead of each.
func TestAKeyGoesBetweenTwoSteps(t *testing.T) {
	cut := func(n []impl.Node) { n[1].Left, n[1].LeftTag, n[2].Gone = 0, 8, true }
	for before := int64(1); before <= 5; before++ {
		h := impl.Hand{At: 5, Prev: 1, Tag: 8, Seen: -1}
		if before == 5 {
			h.Tag = 0
		}
		get, add, cutHand := impl.Resting(2, 0), h, impl.Resting(2, 0)
		add.Call = add20
		if before >= 4 {
			get, add, cutHand = impl.Resting(1, 200), impl.Resting(2, 0), h
			cutHand.Call, cutHand.Cur = cut20, 2
		}
		for c, want := range map[impl.Call]impl.Hand{get20: get, add20: add, cut20: cutHand} {
			if h := lookedWith(t, c, before, cut); h != want {
				t.Errorf("cut ahead of step %d, %+v: %+v, not %+v", before, c, h, want)
			}
		}
	}
}

// The steps to where 55 is not: enter, down to 50, 80, 60 and to nothing, the tag, exit. It comes ahead of each.
func TestAKeyComesBetweenTwoSteps(t *testing.T) {
	hang := func(n []impl.Node) {
		n[6] = impl.Node{Key: 55, Value: 550}
		n[4].Left = 6
	}
	for before := int64(1); before <= 7; before++ {
		for code := int64(1); code <= 3; code++ {
			call := impl.Call{Code: code, Key: 55}
			want := impl.Resting(2, 0)
			switch {
			case before <= 5 && code == 1:
				want = impl.Resting(1, 550)
			case before <= 5 && code == 3:
				want = impl.Hand{At: 5, Call: call, Prev: 4, Cur: 6, Seen: -1}
			case before > 5 && code == 2:
				want = impl.Hand{At: 5, Call: call, Prev: 4, Seen: -1}
			}
			if h := lookedWith(t, call, before, hang); h != want {
				t.Errorf("hung ahead of step %d, %+v: %+v, not %+v", before, call, h, want)
			}
		}
	}
}

// The first key of an empty tree comes: the walk's only link is the root's.
func TestTheFirstKeyComesBetweenTwoSteps(t *testing.T) {
	for before := int64(1); before <= 4; before++ {
		_, h, _ := lookedAhead(t, sharedOf(impl.Roots(), 0), 0, called(t, get20), func(number int64, s *impl.Shared) {
			if number == before {
				s.Nodes = hung(20)
			}
		})
		want := impl.Resting(2, 0)
		if before <= 2 {
			want = impl.Resting(1, 61)
		}
		if h != want {
			t.Errorf("hung ahead of step %d: %+v", before, h)
		}
	}
}

func TestTagAndValueAreReadInTheirOwnStep(t *testing.T) {
	for before := int64(1); before <= 5; before++ {
		tag, out := int64(0), int64(999)
		if before <= 4 {
			tag = 10000
		}
		h := lookedWith(t, cut20, before, func(n []impl.Node) { n[1].LeftTag = 10000 })
		if h != (impl.Hand{At: 5, Call: cut20, Prev: 1, Cur: 2, Tag: tag, Seen: -1}) {
			t.Errorf("the tag ahead of step %d: %+v", before, h)
		}
		h = lookedWith(t, get20, before, func(n []impl.Node) { n[2].Value = 999 })
		if h != impl.Resting(1, out) {
			t.Errorf("the value ahead of step %d: %+v", before, h)
		}
	}
}

// Who is below a node that goes walks on from where it is; who is above takes the new way.
func TestANodeGoesUnderAWalk(t *testing.T) {
	get60 := impl.Call{Code: 1, Key: 60}
	for before := int64(1); before <= 6; before++ {
		h := lookedWith(t, get60, before, func(n []impl.Node) { n[3].Gone, n[1].Right = true, 5 })
		want := impl.Resting(2, 0)
		if before >= 4 {
			want = impl.Resting(1, 600)
		}
		if h != want {
			t.Errorf("80 goes ahead of step %d: %+v", before, h)
		}
	}
}

// No Owner and no Gone is in the way: who looks asks nobody and never waits.
func TestNobodyIsInTheWay(t *testing.T) {
	for _, owner := range []int64{0, 1, 2, 6} {
		for gone := range 2 {
			nodes := fiveKeys()
			for i := range nodes {
				nodes[i].Owner = owner
				nodes[i].Gone = gone == 1 && i > 0
			}
			for _, key := range []int64{20, 60, 90, 0, 70, 99} {
				_, at := wayTo(nodes, key)
				s, h, _ := looked(t, sharedOf(nodes, 0, 0), 0, called(t, impl.Call{Code: 1, Key: key}))
				want := impl.Resting(2, 0)
				if at != 0 {
					want = impl.Resting(1, nodes[at].Value)
				}
				if h != want || !slices.Equal(s.Nodes, nodes) {
					t.Errorf("%d with Owners %d, Gone %d: %+v", key, owner, gone, h)
				}
			}
		}
	}
}

// In a circle there is always a step, and each is one touch: how many there are is not this chapter's business.
func TestOneTouchInACircle(t *testing.T) {
	nodes := []impl.Node{{Key: -1, Right: 1}, {Key: 50, Left: 1, Right: 2}, {Key: 40, Left: 1, Right: 2}}
	s, h := finds.done(t, sharedOf(nodes, 0), 0, called(t, get20))
	for range 100 {
		after, hand := finds.done(t, s, 0, h)
		if hand.At != impl.AtDown || hand.Prev != 1 || hand.Cur != 1 || hand.Side != 0 || !alikeShared(after, s) {
			t.Fatalf("%+v", hand)
		}
		s, h = after, hand
	}
}

// By turns of whoever comes, each finds what he would have found alone.
func TestManyLookAtOnce(t *testing.T) {
	chance := rand.New(rand.NewSource(71))
	for _, nodes := range someTrees() {
		s := sharedOf(nodes, 0, 0, 0, 0, 0, 0)
		hands := make([]impl.Hand, 6)
		want := make([]impl.Hand, 6)
		for task := range hands {
			call := impl.Call{Code: int64(task%3 + 1), Key: chance.Int63n(100)}
			hands[task] = called(t, call)
			_, want[task], _ = looked(t, sharedOf(nodes, 0), 0, hands[task])
		}
		// So many turns that each one has enough of them.
		for range 2000 {
			if task := chance.Intn(6); finding(hands[task]) {
				s, hands[task] = finds.done(t, s, int64(task), hands[task])
			}
		}
		if !slices.Equal(hands, want) || !alikeShared(s, sharedOf(nodes, 2, 2, 2, 2, 2, 2)) {
			t.Errorf("%+v %+v, not %+v", s, hands, want)
		}
	}
}

func TestFindStepAsTheOthers(t *testing.T) { finds.checkCommon(t) }

func TestFindStepByChance(t *testing.T) {
	if waited := finds.checkByChance(t, 70); waited != 0 {
		t.Errorf("who looks waits %d times", waited)
	}
}

// A step that does nothing to a list answers a new one all the same.
func TestFindStepIsNewMemory(t *testing.T) {
	for at := int64(1); at <= 4; at++ {
		for _, c := range []impl.Call{get20, add20, cut20} {
			finds.checkNewMemory(t, wide(), 3, atWork(at, c))
		}
	}
}
