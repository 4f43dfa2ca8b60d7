package tests

import (
	"math/rand"
	"slices"
	"testing"

	"loop.example/g00783/impl"
)

var cuts = stepChapter{step: impl.CutStep, words: cutByWords, places: []int64{9, 10, 11, 12, 13}, lean: leanToCuts}

// leanToCuts makes it likely that the call is a cut, that Cur is free, hangs where it should and lacks a kid, and that a tag is at its limit.
func leanToCuts(chance *rand.Rand, s *impl.Shared, h *impl.Hand) {
	if chance.Intn(4) != 0 {
		h.Call = impl.Call{Code: 3, Key: chance.Int63n(100)}
	}
	if !stepIsRight(*s, 0, *h) || h.Cur == 0 {
		return
	}
	prev, cur := &s.Nodes[h.Prev], &s.Nodes[h.Cur]
	if chance.Intn(2) == 0 {
		cur.Owner = 0
	}
	if chance.Intn(3) != 0 {
		prev.Gone, cur.Gone = false, false
	}
	for side := range int64(2) {
		if chance.Intn(2) == 0 {
			*cur = impl.WithKid(*cur, side, 0)
		}
	}
	if chance.Intn(3) != 0 && (h.Prev != 0 || h.Side == 1) {
		*prev = impl.WithKid(*prev, h.Side, h.Cur)
	}
	if chance.Intn(4) == 0 {
		prev.LeftTag, prev.RightTag = 9999+chance.Int63n(2), 9999+chance.Int63n(2)
	}
}

// cutByWords does just what the document says.
func cutByWords(s impl.Shared, task int64, h impl.Hand) (impl.Shared, impl.Hand, bool) {
	if !stepIsRight(s, task, h) || h.At < 9 || h.At > 13 || h.Call.Code != 3 || h.Cur == 0 {
		return impl.Shared{}, impl.Hand{}, false
	}
	s = cloned(s)
	prev, cur := &s.Nodes[h.Prev], &s.Nodes[h.Cur]
	kid, tag := &prev.Left, &prev.LeftTag
	if h.Side == 1 {
		kid, tag = &prev.Right, &prev.RightTag
	}
	up := cur.Left
	if up == 0 {
		up = cur.Right
	}
	switch {
	case h.At == 9 && cur.Owner != 0:
		return s, h, false
	case h.At == 9:
		cur.Owner, h.At = task+1, 10
	case h.At == 10 && (prev.Gone || cur.Gone || *kid != h.Cur):
		h.At, h.Again = 26, true
	case h.At == 10 && (cur.Left == 0 || cur.Right == 0):
		h.At = 11
	case h.At == 10:
		h.At = 14
	case h.At == 11:
		cur.Gone, h.At = true, 12
	case h.At == 12 && h.Prev == 0 && h.Side == 0 && up != 0, h.At == 13 && *tag == 10000:
		return impl.Shared{}, impl.Hand{}, false
	case h.At == 12 && up == 0:
		*kid, h.At = 0, 13
	case h.At == 12:
		*kid, h.At, h.Reply = up, 26, 1
	default:
		*tag, h.At, h.Reply = *tag+1, 26, 1
	}
	return s, h, true
}

func onlyCuts() []impl.Call {
	return slices.DeleteFunc(rightCalls(), func(c impl.Call) bool { return c.Code != 3 })
}

func TestLockOfCur(t *testing.T) {
	cuts.checkLock(t, lock{at: 9, first: 1, node: func(h *impl.Hand) *int64 { return &h.Cur }, behind: map[int64]int64{3: 10}})
}

// A lock asks for nothing but an Owner: not whether one of both is Gone, whether Cur hangs at Prev, or who has hold of Prev.
func TestLockOfCurAsksForAnOwnerAlone(t *testing.T) {
	for prev := range int64(7) {
		for cur := int64(1); cur < 7; cur++ {
			for owner := range int64(7) {
				nodes := withOwner(held(), prev, owner)
				nodes[cur].Owner, nodes[cur].Gone = 0, true
				nodes[prev].Gone = prev != 0
				for side := range int64(2) {
					h := impl.Hand{At: 9, Call: cut20, Prev: prev, Cur: cur, Side: side, Tag: 10000, Seen: -1}
					hand := h
					hand.At = 10
					cuts.check(t, "lock", sharedOf(nodes, 0, 100000), 1, h, sharedOf(withOwner(nodes, cur, 2), 0, 100000), hand, true)
				}
			}
		}
	}
}

// aCut is Cur with these kids at Prev's Side, all the rest as full as may be, and the hand that has come there to cut it.
func aCut(at, prev, side, cur, left, right int64) (impl.Shared, impl.Hand) {
	nodes := held(1, 2, 3, 4, 5, 6, 1)
	nodes[6].Gone = false
	for i := range nodes[1:] {
		nodes[i+1].Left, nodes[i+1].Right = 3, 2
	}
	nodes[prev] = impl.WithKid(nodes[prev], side, cur)
	nodes[cur].Left, nodes[cur].Right = left, right
	return sharedOf(nodes, 0, 0), impl.Hand{At: at, Call: cut20, Prev: prev, Cur: cur, Side: side, Tag: 77, Up: 4, Next: 3, New: 2, Index: 6, Seen: 17, Begin: 18, Reply: 2, Out: 19}
}

// eachCut goes through each node at either side of each other one, without a kid, with one at the left alone, at the right alone, and with both.
func eachCut(at int64, do func(s impl.Shared, h impl.Hand)) {
	for prev := range int64(7) {
		for side := range int64(2) {
			for cur := int64(1); cur < 7; cur++ {
				if cur == prev || prev == 0 && side == 0 {
					continue
				}
				for _, kids := range [][2]int64{{0, 0}, {1, 0}, {6, 0}, {0, 1}, {0, 6}, {4, 5}, {5, 4}, {1, 6}} {
					do(aCut(at, prev, side, cur, kids[0], kids[1]))
				}
			}
		}
	}
}

func TestCheckOfACutOfAllAsItWas(t *testing.T) {
	eachCut(10, func(s impl.Shared, h impl.Hand) {
		place := int64(11)
		if s.Nodes[h.Cur].Left != 0 && s.Nodes[h.Cur].Right != 0 {
			place = 14
		}
		for _, h.Again = range []bool{false, true} {
			// Whatever tag was seen: the link tells all here.
			for _, h.Tag = range []int64{0, 77, 10000, impl.TagAt(s.Nodes[h.Prev], h.Side)} {
				hand := h
				hand.At = place
				cuts.check(t, "as it was", s, 1, h, s, hand, true)
			}
			for owner := range int64(7) {
				hand := h
				hand.At = place
				other := sharedOf(withOwner(withOwner(s.Nodes, h.Prev, owner), h.Cur, 6-owner), 0, 0)
				cuts.check(t, "whoever has them", other, 1, h, other, hand, true)
			}
		}
	})
}

func TestCheckOfACutWherePrevIsGone(t *testing.T) {
	eachCut(10, func(s impl.Shared, h impl.Hand) {
		if h.Prev != 0 {
			s.Nodes[h.Prev].Gone = true
			cuts.beginsAnew(t, "Prev is gone", s, h)
		}
	})
}

func TestCheckOfACutWhereCurIsGone(t *testing.T) {
	eachCut(10, func(s impl.Shared, h impl.Hand) {
		s.Nodes[h.Cur].Gone = true
		cuts.beginsAnew(t, "Cur is gone", s, h)
	})
}

// Another kid, or none; it is no matter whether Cur hangs at Prev's other side.
func TestCheckOfACutWhereAnotherKidHangs(t *testing.T) {
	eachCut(10, func(s impl.Shared, h impl.Hand) {
		for kid := range int64(7) {
			if kid == h.Cur {
				continue
			}
			s.Nodes[h.Prev] = impl.WithKid(s.Nodes[h.Prev], h.Side, kid)
			cuts.beginsAnew(t, "another kid", s, h)
			if h.Prev != 0 {
				s.Nodes[h.Prev] = impl.WithKid(s.Nodes[h.Prev], 1-h.Side, h.Cur)
				cuts.beginsAnew(t, "at the other side", s, h)
			}
		}
	})
}

// That some other node is Gone is no matter, and no link but one is asked for.
func TestCheckOfACutAsksForBothAlone(t *testing.T) {
	eachCut(10, func(s impl.Shared, h impl.Hand) {
		for i := range s.Nodes[1:] {
			if at := int64(i + 1); at != h.Prev && at != h.Cur {
				s.Nodes[at].Gone, s.Nodes[at].Left, s.Nodes[at].Right = true, h.Cur, h.Prev
			}
		}
		cuts.asWords(t, "others are gone", s, 1, h)
		if _, hand := cuts.done(t, s, 1, h); hand.Again {
			t.Errorf("%+v: begins anew", hand)
		}
	})
}

// Behind a check that failed, nothing is told of it a second time: Again stays.
func TestCheckOfACutFailsAgain(t *testing.T) {
	s, h := aCut(10, 2, 1, 4, 0, 5)
	s.Nodes[2].Gone, s.Nodes[4].Gone, s.Nodes[2].Right = true, true, 3
	cuts.beginsAnew(t, "all at once", s, h)
	h.Again = true
	cuts.beginsAnew(t, "all at once, anew", s, h)
}

// Of Cur all else stays: its Key and Value, both links, which are walked on from, its Owner and its tags; and so does Prev.
func TestMark(t *testing.T) {
	for cur := int64(1); cur < 30; cur++ {
		for _, gone := range []bool{false, true} {
			for _, c := range onlyCuts() {
				s, h := wide(), atWork(11, c)
				s.Nodes[cur] = full()
				s.Nodes[cur].Gone = gone
				h.Cur = cur
				want, hand := cloned(s), h
				want.Nodes[cur].Gone, hand.At = true, 12
				cuts.check(t, "mark", s, 4, h, want, hand, true)
			}
		}
	}
	eachCut(11, func(s impl.Shared, h impl.Hand) {
		want, hand := cloned(s), h
		want.Nodes[h.Cur].Gone, hand.At = true, 12
		cuts.check(t, "mark", s, 1, h, want, hand, true)
	})
}

// checkLift checks a lift of whatever Cur has: one link is another one then, and nothing else.
func checkLift(t *testing.T, s impl.Shared, h impl.Hand) {
	t.Helper()
	cur := s.Nodes[h.Cur]
	want, hand := cloned(s), h
	kid := cur.Left
	if kid == 0 {
		kid = cur.Right
	}
	if hand.At = 13; kid != 0 {
		hand.At, hand.Reply = 26, 1
	}
	if h.Side == 0 {
		want.Nodes[h.Prev].Left = kid
	} else {
		want.Nodes[h.Prev].Right = kid
	}
	cuts.check(t, "lift", s, 1, h, want, hand, true)
}

func TestLift(t *testing.T) {
	eachCut(12, func(s impl.Shared, h impl.Hand) {
		for _, s.Nodes[h.Cur].Gone = range []bool{false, true} {
			for _, h.Again = range []bool{false, true} {
				checkLift(t, s, h)
			}
		}
	})
}

// Whether Cur hangs there, who is Gone, who has hold and what the tags are was asked elsewhere.
func TestLiftAsksForNothing(t *testing.T) {
	eachCut(12, func(s impl.Shared, h impl.Hand) {
		s.Nodes[h.Prev].LeftTag, s.Nodes[h.Prev].RightTag = 10000, 10000
		s.Nodes[h.Prev].Gone = h.Prev != 0
		s.Nodes[h.Prev].Owner, s.Nodes[h.Cur].Owner = 0, 6
		for kid := range int64(7) {
			s.Nodes[h.Prev] = impl.WithKid(s.Nodes[h.Prev], h.Side, kid)
			checkLift(t, s, h)
		}
	})
}

// tagged is a node with that tag at that side, and another one at the other side.
func tagged(n impl.Node, side, tag, other int64) impl.Node {
	if n.LeftTag, n.RightTag = tag, other; side == 1 {
		n.LeftTag, n.RightTag = other, tag
	}
	return n
}

// The tag at Side is one more, up to its limit and not past it; that at the other side stays, be it at the limit.
func TestBump(t *testing.T) {
	eachCut(13, func(s impl.Shared, h impl.Hand) {
		for _, tag := range []int64{0, 1, 77, 9998, 9999, 10000} {
			for _, other := range []int64{0, 78, 10000} {
				bare := s.Nodes[h.Prev]
				s.Nodes[h.Prev] = tagged(bare, h.Side, tag, other)
				if tag == 10000 {
					cuts.refuses(t, "a tag at its limit", s, 1, h)
					continue
				}
				want, hand := cloned(s), h
				want.Nodes[h.Prev] = tagged(bare, h.Side, tag+1, other)
				hand.At, hand.Reply = 26, 1
				cuts.check(t, "bump", s, 1, h, want, hand, true)
			}
		}
	})
}

// Whatever hangs at Side, and though Prev is Gone.
func TestBumpAsksForNothing(t *testing.T) {
	eachCut(13, func(s impl.Shared, h impl.Hand) {
		s.Nodes[h.Prev].Gone = h.Prev != 0
		for kid := range int64(7) {
			s.Nodes[h.Prev] = impl.WithKid(s.Nodes[h.Prev], h.Side, kid)
			want, hand := cloned(s), h
			want.Nodes[h.Prev].LeftTag += 1 - h.Side
			want.Nodes[h.Prev].RightTag += h.Side
			hand.At, hand.Reply = 26, 1
			cuts.check(t, "bump", s, 1, h, want, hand, true)
		}
	})
}

// Nothing may hang at the root's left, so that no kid is lifted there; its tag may be counted.
func TestCutsAtTheRootsLeft(t *testing.T) {
	for _, kids := range [][2]int64{{0, 0}, {4, 0}, {0, 5}, {4, 5}} {
		nodes := fiveKeys()
		nodes[2].Left, nodes[2].Right = kids[0], kids[1]
		s := sharedOf(nodes, 0, 0)
		h := impl.Hand{At: 10, Call: cut20, Cur: 2, Seen: -1}
		cuts.beginsAnew(t, "check", s, h)
		if h.At = 12; kids != [2]int64{} {
			cuts.refuses(t, "lift", s, 1, h)
		} else {
			checkLift(t, s, h)
		}
		h.At = 13
		want, hand := cloned(s), h
		want.Nodes[0].LeftTag = 1
		hand.At, hand.Reply = 26, 1
		cuts.check(t, "bump", s, 1, h, want, hand, true)
		s.Nodes[0].LeftTag = 10000
		cuts.refuses(t, "bump at the limit", s, 1, h)
	}
}

// A Prev that is Cur itself is taken as the words tell.
func TestCutsWherePrevIsCur(t *testing.T) {
	for both := int64(1); both < 7; both++ {
		for _, kids := range [][2]int64{{0, 0}, {both, 0}, {0, both}, {both, both}, {both, 4}, {3, both}, {3, 4}} {
			for _, gone := range []bool{false, true} {
				for _, owner := range []int64{0, 1, 2} {
					nodes := withOwner(held(), both, owner)
					nodes[both].Left, nodes[both].Right, nodes[both].Gone = kids[0], kids[1], gone
					for at := int64(9); at <= 13; at++ {
						for side := range int64(2) {
							h := impl.Hand{At: at, Call: cut20, Prev: both, Cur: both, Side: side, Seen: -1}
							cuts.asWords(t, "both", sharedOf(nodes, 0, 0), 1, h)
						}
					}
				}
			}
		}
	}
}

// An add or a get is refused at each place, and does not wait where Cur is held.
func TestOnlyACutIsTaken(t *testing.T) {
	taken := wide()
	for i := range taken.Nodes {
		taken.Nodes[i].Owner = int64(i % 7)
	}
	for _, s := range []impl.Shared{wide(), wideOf(17), taken} {
		for at := int64(9); at <= 13; at++ {
			for cur := int64(1); cur < 16; cur++ {
				for _, c := range rightCalls() {
					h := atWork(at, c)
					if h.Cur = cur; c.Code != 3 {
						cuts.refuses(t, "no cut", s, 2, h)
						continue
					}
					cuts.asWords(t, "a cut", s, 2, h)
				}
			}
		}
	}
}

// The root is never cut: a Cur of 0 is refused at each place, held or not, and though the root's kid is 0.
func TestACurOfNoneIsRefused(t *testing.T) {
	for owner := range int64(7) {
		for prev := range int64(7) {
			nodes := withOwner(held(), 0, owner)
			nodes[6].Left, nodes[6].Right, nodes[6].Gone = 0, 0, false
			for at := int64(9); at <= 13; at++ {
				for side := range int64(2) {
					for _, c := range onlyCuts() {
						low := impl.Hand{At: at, Call: c, Prev: prev, Side: side, Seen: -1}
						cuts.refuses(t, "from rest", sharedOf(nodes, 2, 3), 1, low)
						h := impl.Hand{At: at, Call: c, Prev: prev, Side: side, Tag: 13, Up: 2, Next: 3, New: 4, Index: 6, Seen: 17, Again: true, Begin: 18, Reply: 2, Out: 19}
						cuts.refuses(t, "a full hand", sharedOf(nodes, 2, 3), 1, h)
					}
				}
			}
		}
	}
	for at := int64(9); at <= 13; at++ {
		cuts.refuses(t, "the root alone", sharedOf(impl.Roots(), 0), 0, impl.Hand{At: at, Call: cut20, Side: 1, Seen: -1})
	}
}

func TestNumbersOfNodesOfACut(t *testing.T) {
	cuts.checkLastNodes(t, 2, impl.Hand{Call: cut20, Cur: 1, Side: 1, Seen: -1})
}

// cutting steps behind AtLock till the hand has to let go, or another one has to move up; it checks that each step is done at once and tells the places that it came to. behind is done behind each.
func cutting(t *testing.T, s impl.Shared, task int64, h impl.Hand, behind func(s impl.Shared, h impl.Hand)) (impl.Shared, impl.Hand, []int64) {
	t.Helper()
	var places []int64
	for h.At >= 9 && h.At <= 13 {
		if len(places) > 5 {
			t.Fatalf("%+v: no end", h)
		}
		s, h = cuts.done(t, s, task, h)
		if holds := []int64{min(h.Prev, h.Cur), max(h.Prev, h.Cur)}; !slices.Equal(impl.HeldBy(s.Nodes, task), holds) {
			t.Fatalf("%+v: holds %v", h, impl.HeldBy(s.Nodes, task))
		}
		places = append(places, h.At)
		behind(s, h)
	}
	return s, h, places
}

func asItIs(impl.Shared, impl.Hand) {}

// atLockCur is a hand that has found what it cuts, and has hold of what that hangs at.
func atLockCur(t *testing.T, s impl.Shared, task, key int64) (impl.Shared, impl.Hand) {
	t.Helper()
	s, h := atLock(t, s, task, impl.Call{Code: 3, Key: key})
	s, h = adds.done(t, s, task, h)
	if h.At != 9 {
		t.Fatalf("not at the lock of Cur: %+v", h)
	}
	return s, h
}

// hasBoth is whether it has a kid at either side, so that another one would have to move up.
func hasBoth(n impl.Node) bool { return n.Left != 0 && n.Right != 0 }

// without is what is there when a node with one side free is cut: its kid hangs where it hung, or nothing, and that is counted.
func without(nodes []impl.Node, at int64) []impl.Node {
	nodes = slices.Clone(nodes)
	kid, bump := max(nodes[at].Left, nodes[at].Right), int64(0)
	if kid == 0 {
		bump = 1
	}
	nodes[at].Gone = true
	for i, n := range nodes {
		switch {
		case n.Gone:
		case n.Left == at:
			nodes[i].Left, nodes[i].LeftTag = kid, n.LeftTag+bump
		case n.Right == at:
			nodes[i].Right, nodes[i].RightTag = kid, n.RightTag+bump
		}
	}
	return nodes
}

// checkCutAlone checks a cut of one who is alone, all the way.
func checkCutAlone(t *testing.T, nodes []impl.Node, key, task int64) []impl.Node {
	t.Helper()
	at := impl.FoundIn(nodes, key)
	if at == 0 {
		s, h, _ := looked(t, sharedOf(nodes, 2, 4, 6), task, called(t, impl.Call{Code: 3, Key: key}))
		if h != impl.Resting(2, 0) || !slices.Equal(s.Nodes, nodes) {
			t.Errorf("%d, which is not there: %+v", key, h)
		}
		return nodes
	}
	s, h := atLockCur(t, sharedOf(nodes, 2, 4, 6), task, key)
	s, h, places := cutting(t, s, task, h, asItIs)
	s = letGo(t, s, task)
	if hasBoth(nodes[at]) {
		if !slices.Equal(places, []int64{10, 14}) || h.Again || h.Reply != 0 || !slices.Equal(s.Nodes, nodes) {
			t.Errorf("%d, with a kid at either side, by %v: %+v", key, places, h)
		}
		return nodes
	}
	wantPlaces := []int64{10, 11, 12, 26}
	if nodes[at].Left == 0 && nodes[at].Right == 0 {
		wantPlaces = []int64{10, 11, 12, 13, 26}
	}
	if !slices.Equal(places, wantPlaces) || h.Again || h.Reply != 1 || h.Cur != at {
		t.Errorf("%d by %v: %+v", key, places, h)
	}
	checkOutOfTheTree(t, nodes, s, at)
	return s.Nodes
}

func checkOutOfTheTree(t *testing.T, before []impl.Node, s impl.Shared, at int64) {
	t.Helper()
	key := before[at].Key
	if want := without(before, at); !slices.Equal(s.Nodes, want) {
		t.Errorf("%d is cut: %+v, not %+v", key, s.Nodes, want)
	}
	pairs := slices.DeleteFunc(impl.PairsIn(before), func(p impl.Pair) bool { return p.Key == key })
	if !impl.TreeOk(s.Nodes) || !slices.Equal(impl.PairsIn(s.Nodes), pairs) || impl.FoundIn(s.Nodes, key) != 0 {
		t.Errorf("%d is cut: %v, not %v", key, impl.PairsIn(s.Nodes), pairs)
	}
	if _, h, _ := looked(t, s, 0, called(t, impl.Call{Code: 1, Key: key})); h != impl.Resting(2, 0) {
		t.Errorf("%d is cut, and found: %+v", key, h)
	}
}

func TestWhoCutsWhatHasOneSideFreeHasItOutOfTheTreeThen(t *testing.T) {
	for _, nodes := range taggedTrees() {
		for key := int64(0); key <= 99; key++ {
			for task := range int64(3) {
				checkCutAlone(t, nodes, key, task)
			}
		}
	}
}

// An aloneFunc is a cut of one who is alone; it answers the nodes behind it.
type aloneFunc func(t *testing.T, nodes []impl.Node, key, task int64) []impl.Node

// cutTillNothingIsLeft cuts keys of the trees by chance till none is left, and checks that each one goes just if it can.
func cutTillNothingIsLeft(t *testing.T, chance *rand.Rand, trees [][]impl.Node, cut aloneFunc, can func(nodes []impl.Node, at int64) bool) {
	t.Helper()
	for _, nodes := range trees {
		for pairs := impl.PairsIn(nodes); len(pairs) > 0; pairs = impl.PairsIn(nodes) {
			key := pairs[chance.Intn(len(pairs))].Key
			after := cut(t, nodes, key, chance.Int63n(3))
			if one := can(nodes, impl.FoundIn(nodes, key)); one != (len(impl.PairsIn(after)) == len(pairs)-1) {
				t.Fatalf("%d of %v: %v left", key, pairs, impl.PairsIn(after))
			}
			nodes = after
		}
		if nodes[0].Right != 0 || impl.DepthOf(nodes) != 0 {
			t.Errorf("something is left: %+v", nodes)
		}
	}
}

// addAndCutByTurns adds and cuts few keys till there is no room any more: what is Gone takes its room for ever.
func addAndCutByTurns(t *testing.T, chance *rand.Rand, cut aloneFunc) {
	t.Helper()
	for range 60 {
		nodes := impl.Roots()
		for range 200 {
			key, task := chance.Int63n(9), chance.Int63n(3)
			if chance.Intn(2) == 0 {
				nodes = checkAddedAlone(t, nodes, impl.Call{Code: 2, Key: key, Value: chance.Int63n(1000)}, task).Nodes
			} else {
				nodes = cut(t, nodes, key, task)
			}
		}
		if len(nodes) != 30 {
			t.Errorf("only %d nodes", len(nodes))
		}
	}
}

// Of any tree nothing is left at last: there is always a key with one side free.
func TestCuttingTillNothingIsLeft(t *testing.T) {
	trees := append(taggedTrees(), taggedTrees()...)
	cutTillNothingIsLeft(t, rand.New(rand.NewSource(90)), trees, checkCutAlone, func(nodes []impl.Node, at int64) bool { return !hasBoth(nodes[at]) })
}

// What is cut can be added again, as long as there is room.
func TestAddingAndCuttingByTurns(t *testing.T) {
	addAndCutByTurns(t, rand.New(rand.NewSource(91)), checkCutAlone)
}

// The least and the greatest key that there may be.
func TestCutsOfTheKeysAtTheEnds(t *testing.T) {
	for _, keys := range [][]int64{{0}, {99}, {0, 99}, {99, 0}, {50, 0, 99}, {0, 50, 99}, {99, 50, 0}} {
		for _, key := range []int64{0, 99} {
			checkCutAlone(t, hung(keys...), key, 1)
		}
	}
}

// Two have found the same key: the second one waits, and begins anew then, for what it found is gone.
func TestTwoCutsOfOneKey(t *testing.T) {
	for _, key := range []int64{20, 60, 90} {
		s, first := atLockCur(t, sharedOf(fiveKeys(), 0, 0), 0, key)
		s, second := atLock(t, s, 1, impl.Call{Code: 3, Key: key})
		s, first, _ = cutting(t, s, 0, first, func(s impl.Shared, _ impl.Hand) { adds.waits(t, "the second", s, 1, second) })
		s, second = adds.done(t, letGo(t, s, 0), 1, second)
		s, second = cuts.done(t, s, 1, second)
		before := s
		s, second = cuts.done(t, s, 1, second)
		if first.Reply != 1 || second.At != 26 || !second.Again || second.Reply != 0 || !alikeShared(s, before) {
			t.Errorf("%d: %+v %+v", key, first, second)
		}
		checkCutAlone(t, letGo(t, s, 1).Nodes, key, 1)
	}
}

// Two at a node and at its one kid: whoever takes hold of the node first is done first; the other one waits for it, and knows then whether it is gone.
func TestTwoCutsOfANodeAndItsKid(t *testing.T) {
	nodes := checkCutAlone(t, fiveKeys(), 90, 0)
	s, above := atLock(t, sharedOf(nodes, 0, 0), 0, impl.Call{Code: 3, Key: 80})
	s, below := atLock(t, s, 1, impl.Call{Code: 3, Key: 60})
	s, above = adds.done(t, s, 0, above)
	s, above, _ = cutting(t, s, 0, above, func(s impl.Shared, _ impl.Hand) { adds.waits(t, "the lower one", s, 1, below) })
	s, below = adds.done(t, letGo(t, s, 0), 1, below)
	s, below, places := cutting(t, s, 1, below, asItIs)
	if above.Reply != 1 || !below.Again || !slices.Equal(places, []int64{10, 26}) || s.Nodes[1].Right != 4 || s.Nodes[4].Gone {
		t.Errorf("the upper one first: %+v %+v %+v", above, below, s.Nodes)
	}
	checkCutAlone(t, letGo(t, s, 1).Nodes, 60, 1)

	s, above = atLockCur(t, sharedOf(nodes, 0, 0), 0, 80)
	s, below = atLockCur(t, s, 1, 60)
	s, below, _ = cutting(t, s, 1, below, func(s impl.Shared, _ impl.Hand) { cuts.waits(t, "the upper one", s, 0, above) })
	s, above, places = cutting(t, letGo(t, s, 1), 0, above, asItIs)
	if below.Reply != 1 || above.Reply != 1 || !slices.Equal(places, []int64{10, 11, 12, 13, 26}) || s.Nodes[1].Right != 0 || s.Nodes[1].RightTag != 1 {
		t.Errorf("the lower one first: %+v %+v %+v", above, below, s.Nodes)
	}
}

// A key has come below meanwhile: what had a side free has both sides taken when it is looked at.
func TestAKidComesAheadOfTheLock(t *testing.T) {
	nodes := checkCutAlone(t, fiveKeys(), 90, 0)
	s, h := atLock(t, sharedOf(nodes, 0, 0, 0), 0, impl.Call{Code: 3, Key: 80})
	s = checkAddedAlone(t, s.Nodes, impl.Call{Code: 2, Key: 85}, 1)
	s, h = adds.done(t, s, 0, h)
	if _, h, _ = cutting(t, s, 0, h, asItIs); h.At != 14 || h.Again {
		t.Errorf("%+v", h)
	}
}

// An adder has found a place; a key is hung just there and cut again: by the link alone, all would be as it was.
func TestACutTellsAnAdderByTheTag(t *testing.T) {
	s, h := atLock(t, sharedOf(fiveKeys(), 0, 0, 0), 0, impl.Call{Code: 2, Key: 30})
	nodes := checkAddedAlone(t, s.Nodes, impl.Call{Code: 2, Key: 25}, 1).Nodes
	nodes = checkCutAlone(t, nodes, 25, 2)
	if nodes[2].Right != 0 || nodes[2].RightTag != 1 {
		t.Fatalf("%+v", nodes)
	}
	s, h = adds.done(t, sharedOf(nodes, 0, 0, 0), 0, h)
	if _, h = adds.done(t, s, 0, h); h.At != 26 || !h.Again {
		t.Errorf("%+v", h)
	}
}

// stepsOf does so many steps of a walk, or all that there are.
func stepsOf(t *testing.T, s impl.Shared, h impl.Hand, most int) (impl.Shared, impl.Hand) {
	t.Helper()
	for range most {
		if finding(h) {
			s, h = finds.done(t, s, 2, h)
		}
	}
	return s, h
}

// checkReader checks one who looks for a key while another one is cut: some steps of the walk, some of the cut, the rest of the walk.
func checkReader(t *testing.T, nodes []impl.Node, key, cut int64, ofWalk, ofCut int) {
	t.Helper()
	s, h := stepsOf(t, sharedOf(nodes, 0, 0, 0), called(t, impl.Call{Code: 1, Key: key}), ofWalk)
	at := impl.FoundIn(nodes, key)
	want := impl.Resting(1, nodes[at].Value)
	onIt := h.Cur == at || h == want
	s, cutter := atLockCur(t, s, 1, cut)
	for range ofCut {
		if cutter.At != 26 {
			s, cutter = cuts.done(t, s, 1, cutter)
		}
	}
	lifted := cutter.At == 13 || cutter.At == 26
	if _, h = stepsOf(t, s, h, 40); key == cut && lifted && !onIt {
		want = impl.Resting(2, 0)
	}
	if h != want {
		t.Errorf("%d while %d is cut, at %d behind %d steps: %+v, not %+v", key, cut, cutter.At, ofWalk, h, want)
	}
}

// Whoever walks meanwhile finds each other key, and this one till it is lifted out; who stood there before finds it still.
func TestReadersWhileOneCuts(t *testing.T) {
	for i, nodes := range append([][]impl.Node{fiveKeys(), hung(1, 2), hung(2, 1), hung(50, 10, 30, 20, 40), hung(50, 90, 70, 80, 60)}, someTrees()[9:11]...) {
		pairs := impl.PairsIn(nodes)
		for _, cut := range pairs {
			if hasBoth(nodes[impl.FoundIn(nodes, cut.Key)]) {
				continue
			}
			for _, key := range pairs {
				for ofWalk := range 10 {
					for ofCut := range 6 {
						checkReader(t, nodes, key.Key, cut.Key, ofWalk, ofCut)
					}
				}
			}
		}
		if len(pairs) == 0 {
			t.Errorf("the tree %d is empty", i)
		}
	}
}

// By turns of whoever comes, each key is in the tree just from where it is hung till it is lifted out, and nobody is told what was true at no time.
func TestManyCutAtOnce(t *testing.T) {
	chance := rand.New(rand.NewSource(92))
	cuts, agains := 0, 0
	for _, keys := range []int64{1, 2, 3, 5, 9, 20} {
		for range 60 {
			c := newCrew(impl.Roots(), 10, func() impl.Call { return chanceCall(chance, keys, 1+chance.Int63n(3)) })
			c.work(t, chance)
			cuts, agains = cuts+c.cuts-c.moves, agains+c.agains[10]
		}
	}
	if cuts < 1000 || agains < 500 {
		t.Errorf("only %d are cut and %d checks failed: too few in each other's way", cuts, agains)
	}
}

func TestCutStepAsTheOthers(t *testing.T) { cuts.checkCommon(t) }

func TestCutStepByChance(t *testing.T) {
	if waited := cuts.checkByChance(t, 93); waited < 400 {
		t.Errorf("only %d of 20000 waited", waited)
	}
}

func TestARefusalOfACutGoesAheadOfWaiting(t *testing.T) {
	s := sharedOf(held(1, 0, 1), 0, 0)
	waiting := impl.Hand{At: 9, Call: cut20, Prev: 1, Cur: 2, Seen: -1}
	cuts.refusesAheadOfWaiting(t, s, waiting)
	cuts.waits(t, "right", s, 0, waiting)
	noCur, add := waiting, waiting
	noCur.Cur, add.Call = 0, add20
	cuts.refuses(t, "a Cur of none", s, 0, noCur)
	cuts.refuses(t, "an add", s, 0, add)
}

// A step that does nothing to a list, and one that waits, answer a new one all the same.
func TestCutStepIsNewMemory(t *testing.T) {
	waiting := wide()
	waiting.Nodes[12].Owner = 2
	for at := int64(9); at <= 13; at++ {
		for _, s := range []impl.Shared{wide(), wideOf(28), waiting} {
			cuts.checkNewMemory(t, s, 3, atWork(at, cut20))
		}
	}
	eachCut(10, func(s impl.Shared, h impl.Hand) { cuts.checkNewMemory(t, s, 1, h) })
}
