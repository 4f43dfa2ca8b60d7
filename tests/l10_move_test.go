package tests

import (
	"math/rand"
	"testing"

	"loop.example/g00783/impl"
)

var moves = stepChapter{step: impl.MoveStep, words: moveByWords, places: []int64{14, 15, 16, 17, 18, 19, 20, 21, 23, 24, 25}, lean: leanToMoves}

// leanToMoves makes it likely that the call is a cut, that all nodes are there, that Up is Cur or Next hangs at it, that a check passes, and that a tag is at its limit.
func leanToMoves(chance *rand.Rand, s *impl.Shared, h *impl.Hand) {
	if chance.Intn(6) != 0 {
		h.Call = impl.Call{Code: 3, Key: chance.Int63n(100)}
	}
	if !stepIsRight(*s, 0, *h) || len(s.Nodes) == 1 {
		return
	}
	for _, number := range []*int64{&h.Cur, &h.Next, &h.New} {
		if chance.Intn(8) != 0 {
			*number = 1 + chance.Int63n(int64(len(s.Nodes))-1)
		}
	}
	if chance.Intn(2) == 0 {
		h.Up = h.Cur
	}
	up, next := &s.Nodes[h.Up], &s.Nodes[h.Next]
	if chance.Intn(2) == 0 {
		up.Owner, next.Owner = 0, 0
	}
	if chance.Intn(3) != 0 {
		up.Gone, next.Gone = false, false
	}
	if chance.Intn(2) == 0 {
		next.Left = 0
	}
	if chance.Intn(2) == 0 {
		next.Right = 0
	}
	if chance.Intn(3) != 0 && h.Up == h.Cur {
		up.Right = h.Next
	} else if chance.Intn(3) != 0 && h.Up != 0 {
		up.Left = h.Next
	}
	if joint := &s.Nodes[max(h.Up, h.New)]; chance.Intn(4) == 0 {
		joint.LeftTag, joint.RightTag = 9999+chance.Int63n(2), 9999+chance.Int63n(2)
	}
}

// moveByWords does just what the document says.
func moveByWords(s impl.Shared, task int64, h impl.Hand) (impl.Shared, impl.Hand, bool) {
	if !stepIsRight(s, task, h) || h.At < 14 || h.At > 25 || h.At == 22 || h.Call.Code != 3 || h.Cur == 0 || h.At >= 15 && h.Next == 0 || h.At >= 21 && h.New == 0 {
		return impl.Shared{}, impl.Hand{}, false
	}
	s = cloned(s)
	if h.At <= 18 {
		return moveFoundByWords(s, task, h)
	}
	cur, next := &s.Nodes[h.Cur], &s.Nodes[h.Next]
	kid, tag := &s.Nodes[h.Up].Left, &s.Nodes[h.Up].LeftTag
	if h.Up == h.Cur {
		kid, tag = &s.Nodes[h.New].Right, &s.Nodes[h.New].RightTag
	}
	switch {
	case h.At == 19 && len(s.Nodes) == 30:
		h.At, h.Reply = 26, 3
	case h.At == 19:
		h.At, h.New = 20, int64(len(s.Nodes))
		s.Nodes = append(s.Nodes, impl.Node{Key: next.Key, Value: next.Value, Left: cur.Left, Right: cur.Right, Owner: task + 1})
	case h.At == 20:
		cur.Gone, h.At = true, 21
	case h.At == 21 && h.Prev == 0 && h.Side == 0, h.At == 24 && h.Up == 0 && next.Right != 0, h.At == 25 && *tag == 10000:
		return impl.Shared{}, impl.Hand{}, false
	case h.At == 21 && h.Side == 0:
		s.Nodes[h.Prev].Left, h.At, h.Index, h.Seen = h.New, 22, 0, -1
	case h.At == 21:
		s.Nodes[h.Prev].Right, h.At, h.Index, h.Seen = h.New, 22, 0, -1
	case h.At == 23:
		next.Gone, h.At = true, 24
	case h.At == 24 && next.Right == 0:
		*kid, h.At = 0, 25
	case h.At == 24:
		*kid, h.At, h.Reply = next.Right, 26, 1
	default:
		*tag, h.At, h.Reply = *tag+1, 26, 1
	}
	return s, h, true
}

// moveFoundByWords is of the places till all is found and held.
func moveFoundByWords(s impl.Shared, task int64, h impl.Hand) (impl.Shared, impl.Hand, bool) {
	up, next := &s.Nodes[h.Up], &s.Nodes[h.Next]
	hangs := up.Left == h.Next
	if h.Up == h.Cur {
		hangs = up.Right == h.Next
	}
	switch {
	case h.At == 14:
		h.Up, h.Next, h.At = h.Cur, s.Nodes[h.Cur].Right, 15
	case h.At == 15 && next.Left != 0:
		h.Up, h.Next = h.Next, next.Left
	case h.At == 15 && h.Up == h.Cur:
		h.At = 17
	case h.At == 15:
		h.At = 16
	case h.At == 16 && up.Owner != 0, h.At == 17 && next.Owner != 0:
		return s, h, false
	case h.At == 16:
		up.Owner, h.At = task+1, 17
	case h.At == 17:
		next.Owner, h.At = task+1, 18
	case hangs && !up.Gone && !next.Gone && next.Left == 0:
		h.At = 19
	default:
		h.At, h.Again = 26, true
	}
	return s, h, true
}

// aMove is Cur at Prev's Side and Next where it would be, with New behind it, all the rest as full as may be, and the hand that has come there to have Next move up. first is the number of the first of these nodes.
func aMove(at, first, side int64, upIsCur bool) (impl.Shared, impl.Hand) {
	var places []int64
	for i := range int64(7) {
		places = append(places, 1+(first+i)%7)
	}
	h := impl.Hand{At: at, Call: cut20, Prev: places[0], Cur: places[1], Side: side, Tag: 77, Up: places[2], Next: places[3], New: places[4], Index: 6, Seen: 17, Begin: 18, Reply: 2, Out: 19}
	nodes := append(impl.Roots(), make([]impl.Node, 7)...)
	nodes[0].Right, nodes[0].Owner, nodes[0].LeftTag, nodes[0].RightTag = places[5], 6, 10, 20
	for i := range int64(7) {
		nodes[i+1] = impl.Node{Key: 11 * i, Value: 100 + i, Left: places[5], Right: places[6], Owner: i, LeftTag: 11 + i, RightTag: 21 + i}
	}
	nodes[h.Prev] = impl.WithKid(nodes[h.Prev], side, h.Cur)
	nodes[h.Up].Left, nodes[h.Next].Left = h.Next, 0
	if upIsCur {
		nodes[h.Up].Left, h.Up, nodes[h.Cur].Right, nodes[h.New].Right = places[5], h.Cur, h.Next, h.Next
	}
	return sharedOf(nodes, 0, 0), h
}

// eachMove goes through either Side, Up being Cur and not, and each of the nodes being each of seven ones; and Prev the root, too.
func eachMove(at int64, do func(s impl.Shared, h impl.Hand)) {
	for first := range int64(7) {
		for side := range int64(2) {
			for _, upIsCur := range []bool{false, true} {
				do(aMove(at, first, side, upIsCur))
				if s, h := aMove(at, first, side, upIsCur); side == 1 {
					s.Nodes[0].Right, h.Prev = h.Cur, 0
					do(s, h)
				}
			}
		}
	}
}

// both does it with Again and without.
func both(h impl.Hand, do func(h impl.Hand)) {
	for _, h.Again = range []bool{false, true} {
		do(h)
	}
}

// leadsTo checks that the one hand becomes the other one, and that all else stays.
func leadsTo(t *testing.T, name string, s impl.Shared, h, hand impl.Hand) {
	t.Helper()
	moves.check(t, name, s, 1, h, s, hand, true)
}

// Whatever Up and Next were; that there is nothing at the right is told by a Next of 0, which the next step refuses.
func TestNext(t *testing.T) {
	eachMove(14, func(s impl.Shared, h impl.Hand) {
		for right := range int64(8) {
			s.Nodes[h.Cur].Right = right
			both(h, func(h impl.Hand) {
				hand := h
				hand.At, hand.Up, hand.Next = 15, h.Cur, right
				leadsTo(t, "next", s, h, hand)
				if right == 0 {
					moves.refuses(t, "no next", s, 1, hand)
				}
				h.Up, h.Next, h.New = 0, 0, 0
				hand.New = 0
				leadsTo(t, "next from nothing", s, h, hand)
			})
		}
	})
}

func TestNextAsksForNothing(t *testing.T) {
	eachMove(14, func(s impl.Shared, h impl.Hand) {
		hand := h
		hand.At, hand.Up, hand.Next = 15, h.Cur, s.Nodes[h.Cur].Right
		for i := range s.Nodes[1:] {
			s.Nodes[i+1].Gone, s.Nodes[i+1].Owner = true, 6
		}
		s.Nodes[h.Cur].Left = 0
		leadsTo(t, "all is gone", s, h, hand)
	})
}

// Just one to the left, though there are more; then to the lock of Up, but for a Cur, which is held already.
func TestLeft(t *testing.T) {
	eachMove(15, func(s impl.Shared, h impl.Hand) {
		for kid := range int64(8) {
			s.Nodes[h.Next].Left = kid
			hand := h
			switch {
			case kid != 0:
				hand.Up, hand.Next = h.Next, kid
			case h.Up == h.Cur:
				hand.At = 17
			default:
				hand.At = 16
			}
			both(h, func(h impl.Hand) {
				hand.Again = h.Again
				for _, h.New = range []int64{0, h.New} {
					hand.New = h.New
					leadsTo(t, "left", s, h, hand)
				}
			})
		}
	})
}

// Who is Gone and who has hold is no matter while it goes to the left, and no key is looked at.
func TestLeftAsksForLinksAlone(t *testing.T) {
	for _, kid := range []int64{0, 1, 4, 7} {
		eachMove(15, func(s impl.Shared, h impl.Hand) {
			for i := range s.Nodes[1:] {
				s.Nodes[i+1].Gone, s.Nodes[i+1].Owner, s.Nodes[i+1].Key = true, 6, 5
			}
			s.Nodes[h.Next].Left, s.Nodes[h.Up].Left = kid, 0
			moves.asWords(t, "all is gone", s, 1, h)
			if _, hand := moves.done(t, s, 1, h); (hand.At == 15) != (kid != 0) {
				t.Errorf("%+v", hand)
			}
		})
	}
}

// Each step to the left is one, as far down as there are nodes.
func TestALongWayToTheLeft(t *testing.T) {
	for depth := int64(1); depth <= 27; depth++ {
		keys := []int64{10, 5}
		for i := range depth {
			keys = append(keys, 90-i)
		}
		s, h := sharedOf(hung(keys...), 0), impl.Hand{At: 14, Call: impl.Call{Code: 3, Key: 10}, Cur: 1, Side: 1, Seen: -1}
		s, h = moves.done(t, s, 0, h)
		for i := range depth - 1 {
			if h.At != 15 || h.Next != 3+i || h.Up != 2+i && i > 0 {
				t.Fatalf("%d to the left: %+v", i, h)
			}
			s, h = moves.done(t, s, 0, h)
		}
		if s, h = moves.done(t, s, 0, h); h.Next != 2+depth || h.At == 15 || (h.At == 17) != (depth == 1) {
			t.Errorf("%d down: %+v", depth, h)
		}
	}
}

func TestLockOfUp(t *testing.T) {
	moves.checkLock(t, lock{at: 16, node: func(h *impl.Hand) *int64 { return &h.Up }, least: impl.Hand{Cur: 4, Next: 5}, behind: map[int64]int64{3: 17}})
}

func TestLockOfNext(t *testing.T) {
	moves.checkLock(t, lock{at: 17, first: 1, node: func(h *impl.Hand) *int64 { return &h.Next }, least: impl.Hand{Cur: 4}, behind: map[int64]int64{3: 18}})
}

// The locks ask for nothing but an Owner: not who is Gone, where Next hangs, or who has hold of the others.
func TestLocksOfAMoveAskForAnOwnerAlone(t *testing.T) {
	for at := int64(16); at <= 17; at++ {
		eachMove(at, func(s impl.Shared, h impl.Hand) {
			locked := h.Up
			if at == 17 {
				locked = h.Next
			}
			for owner := range int64(7) {
				for i := range s.Nodes[1:] {
					s.Nodes[i+1].Gone, s.Nodes[i+1].Owner = true, owner
				}
				s.Nodes[h.Up].Left, s.Nodes[h.Cur].Right, s.Nodes[h.Next].Left = 0, 0, 7
				s.Nodes[locked].Owner = 0
				hand := h
				hand.At++
				moves.check(t, "lock", s, 1, h, sharedOf(withOwner(s.Nodes, locked, 2), 0, 0), hand, true)
			}
		})
	}
}

// Up may be Cur at either lock, as the words tell; then the task waits for itself at that of Up.
func TestLocksWhereUpIsCur(t *testing.T) {
	for owner := range int64(7) {
		s, h := aMove(16, 0, 1, true)
		s.Nodes = withOwner(s.Nodes, h.Cur, owner)
		moves.asWords(t, "Cur as Up", s, 1, h)
		if _, hand, is := impl.MoveStep(s, 1, h); is != (owner == 0) || hand.At == 0 {
			t.Errorf("owner %d: %v, %+v", owner, is, hand)
		}
	}
}

func TestCheckOfAMoveOfAllAsItWas(t *testing.T) {
	eachMove(18, func(s impl.Shared, h impl.Hand) {
		both(h, func(h impl.Hand) {
			hand := h
			hand.At = 19
			leadsTo(t, "as it was", s, h, hand)
			for owner := range int64(7) {
				leadsTo(t, "whoever has them", sharedOf(withOwner(withOwner(s.Nodes, h.Up, owner), h.Next, 6-owner), 0, 0), h, hand)
			}
			for right := range int64(8) {
				other := cloned(s)
				other.Nodes[h.Next].Right = right
				leadsTo(t, "whatever is at its right", other, h, hand)
			}
		})
	})
}

// fails checks that the call begins anew, with Again and without.
func fails(t *testing.T, name string, s impl.Shared, h impl.Hand) {
	t.Helper()
	both(h, func(h impl.Hand) { moves.beginsAnew(t, name, s, h) })
}

func TestCheckOfAMoveWhereUpIsGone(t *testing.T) {
	eachMove(18, func(s impl.Shared, h impl.Hand) {
		s.Nodes[h.Up].Gone = true
		fails(t, "Up is gone", s, h)
	})
}

func TestCheckOfAMoveWhereNextIsGone(t *testing.T) {
	eachMove(18, func(s impl.Shared, h impl.Hand) {
		s.Nodes[h.Next].Gone = true
		fails(t, "Next is gone", s, h)
	})
}

func TestCheckOfAMoveWhereNextHasALeft(t *testing.T) {
	eachMove(18, func(s impl.Shared, h impl.Hand) {
		for kid := int64(1); kid < 8; kid++ {
			s.Nodes[h.Next].Left = kid
			fails(t, "a lesser one", s, h)
		}
	})
}

// Another kid, or none; it is no matter that Next hangs at Up's other side.
func TestCheckOfAMoveWhereAnotherKidHangs(t *testing.T) {
	eachMove(18, func(s impl.Shared, h impl.Hand) {
		side := int64(0)
		if h.Up == h.Cur {
			side = 1
		}
		for kid := range int64(8) {
			if kid != h.Next {
				s.Nodes[h.Up] = impl.WithKid(s.Nodes[h.Up], side, kid)
				fails(t, "another kid", s, h)
				s.Nodes[h.Up] = impl.WithKid(s.Nodes[h.Up], 1-side, h.Next)
				fails(t, "at the other side", s, h)
			}
		}
	})
}

// That some other node is Gone is no matter, be it Prev or Cur, where that is not Up; and no link but two is asked for.
func TestCheckOfAMoveAsksForBothAlone(t *testing.T) {
	eachMove(18, func(s impl.Shared, h impl.Hand) {
		for i := range s.Nodes[1:] {
			if at := int64(i + 1); at != h.Up && at != h.Next {
				s.Nodes[at].Gone, s.Nodes[at].Left, s.Nodes[at].Right = true, h.Next, h.Up
			}
		}
		hand := h
		hand.At = 19
		leadsTo(t, "others are gone", s, h, hand)
	})
}

func TestCheckOfAMoveFailsInAllAtOnce(t *testing.T) {
	eachMove(18, func(s impl.Shared, h impl.Hand) {
		s.Nodes[h.Up].Gone, s.Nodes[h.Next].Gone, s.Nodes[h.Next].Left = true, true, 7
		s.Nodes[h.Up].Left, s.Nodes[h.Up].Right = 0, 0
		fails(t, "all at once", s, h)
	})
}

// New has the Key and the Value of Next, both links of Cur and this task for an Owner, but no tags, and is not Gone, whatever both are.
func TestCopy(t *testing.T) {
	for count := 17; count <= 29; count++ {
		for task := range int64(6) {
			for _, c := range onlyCuts() {
				s, h := wideOf(count-1), atWork(19, c)
				cur, next := &s.Nodes[h.Cur], &s.Nodes[h.Next]
				*cur = impl.Node{Key: 99, Value: 999, Left: 3, Right: 16, Owner: 6, Gone: true, LeftTag: 10000, RightTag: 9999}
				*next = impl.Node{Key: 98, Value: 0, Left: 5, Right: 7, Owner: 5, Gone: true, LeftTag: 9998, RightTag: 10000}
				want, hand := cloned(s), h
				want.Nodes = append(want.Nodes, impl.Node{Key: 98, Value: 0, Left: 3, Right: 16, Owner: task + 1})
				hand.At, hand.New = 20, int64(count)
				moves.check(t, "copy", s, task, h, want, hand, true)
			}
		}
	}
}

func TestCopyOfEachMove(t *testing.T) {
	eachMove(19, func(s impl.Shared, h impl.Hand) {
		for _, links := range [][2]int64{{0, 0}, {0, 7}, {7, 0}, {3, 4}} {
			s.Nodes[h.Cur].Left, s.Nodes[h.Cur].Right = links[0], links[1]
			both(h, func(h impl.Hand) {
				next := s.Nodes[h.Next]
				want, hand := cloned(s), h
				want.Nodes = append(want.Nodes, impl.Node{Key: next.Key, Value: next.Value, Left: links[0], Right: links[1], Owner: 2})
				hand.At, hand.New = 20, 8
				moves.check(t, "copy", s, 1, h, want, hand, true)
				h.New = 0
				moves.check(t, "copy, with no New yet", s, 1, h, want, hand, true)
			})
		}
	})
}

func TestCopyWhereThereIsNoRoom(t *testing.T) {
	for _, c := range onlyCuts() {
		for _, reply := range []int64{0, 1, 2, 3} {
			h := atWork(19, c)
			h.Reply = reply
			hand := h
			hand.At, hand.Reply = 26, 3
			moves.check(t, "no room", wide(), 4, h, wide(), hand, true)
			low := impl.Hand{At: 19, Call: c, Cur: 1, Up: 1, Next: 29, Reply: reply, Seen: -1}
			full := low
			full.At, full.Reply = 26, 3
			moves.check(t, "no room", sharedOf(manyNodes(30), 5), 0, low, sharedOf(manyNodes(30), 5), full, true)
		}
	}
}

// The last node that there is room for is made, and there is no room for one more.
func TestTheLastCopy(t *testing.T) {
	s, h := wideOf(28), atWork(19, cut20)
	s, h = moves.done(t, s, 0, h)
	if h.At != 20 || h.New != 29 || len(s.Nodes) != 30 {
		t.Fatalf("%+v %+v", h, s)
	}
	h.At = 19
	hand := h
	hand.At, hand.Reply = 26, 3
	moves.check(t, "one more", s, 0, h, s, hand, true)
}

// goesAway checks that the node is Gone then, and that all else of it stays, as does all else.
func goesAway(t *testing.T, s impl.Shared, h impl.Hand, at int64) {
	t.Helper()
	hand := h
	hand.At++
	for _, gone := range []bool{false, true} {
		s.Nodes[at].Gone = gone
		want := cloned(s)
		want.Nodes[at].Gone = true
		moves.check(t, "goes away", s, 1, h, want, hand, true)
	}
}

func TestOut(t *testing.T) {
	eachMove(20, func(s impl.Shared, h impl.Hand) {
		both(h, func(h impl.Hand) {
			goesAway(t, s, h, h.Cur)
			h.New = 0
			goesAway(t, s, h, h.Cur)
		})
		s.Nodes[h.Cur] = impl.Node{Key: 99, Value: 999, Left: 7, Right: 6, Owner: 6, LeftTag: 10000, RightTag: 10000}
		goesAway(t, s, h, h.Cur)
	})
}

func TestTake(t *testing.T) {
	eachMove(23, func(s impl.Shared, h impl.Hand) {
		both(h, func(h impl.Hand) { goesAway(t, s, h, h.Next) })
		s.Nodes[h.Next] = impl.Node{Key: 99, Value: 999, Left: 7, Right: 6, Owner: 6, LeftTag: 10000, RightTag: 10000}
		goesAway(t, s, h, h.Next)
	})
}

// New hangs at Prev's Side, and the tags and the other side of that stay; whatever Index and Seen were, the round begins at its beginning.
func TestIn(t *testing.T) {
	eachMove(21, func(s impl.Shared, h impl.Hand) {
		for _, round := range [][2]int64{{6, 17}, {0, -1}, {0, 0}, {1, -1}, {6, 100000}} {
			both(h, func(h impl.Hand) {
				h.Index, h.Seen = round[0], round[1]
				want, hand := cloned(s), h
				hand.At, hand.Index, hand.Seen = 22, 0, -1
				if h.Side == 0 {
					want.Nodes[h.Prev].Left = h.New
				} else {
					want.Nodes[h.Prev].Right = h.New
				}
				moves.check(t, "in", s, 1, h, want, hand, true)
			})
		}
	})
}

// Whatever hung there, who is Gone, who has hold and what the tags are.
func TestInAsksForNothing(t *testing.T) {
	eachMove(21, func(s impl.Shared, h impl.Hand) {
		for i := range s.Nodes {
			s.Nodes[i].Gone, s.Nodes[i].Owner = i != 0, 6
			s.Nodes[i].LeftTag, s.Nodes[i].RightTag = 10000, 10000
		}
		for kid := range int64(8) {
			s.Nodes[h.Prev] = impl.WithKid(s.Nodes[h.Prev], h.Side, kid)
			want, hand := cloned(s), h
			want.Nodes[h.Prev] = impl.WithKid(want.Nodes[h.Prev], h.Side, h.New)
			hand.At, hand.Index, hand.Seen = 22, 0, -1
			moves.check(t, "in", s, 1, h, want, hand, true)
		}
	})
}

// joined is what is there when what was at Next's right hangs where Next hung.
func joined(s impl.Shared, h impl.Hand) (impl.Shared, impl.Hand) {
	s = cloned(s)
	rest := s.Nodes[h.Next].Right
	if h.Up == h.Cur {
		s.Nodes[h.New].Right = rest
	} else {
		s.Nodes[h.Up].Left = rest
	}
	if h.At = 25; rest != 0 {
		h.At, h.Reply = 26, 1
	}
	return s, h
}

func TestJoin(t *testing.T) {
	eachMove(24, func(s impl.Shared, h impl.Hand) {
		for rest := range int64(8) {
			s.Nodes[h.Next].Right = rest
			both(h, func(h impl.Hand) {
				want, hand := joined(s, h)
				moves.check(t, "join", s, 1, h, want, hand, true)
			})
		}
	})
}

// Whatever hangs there, who is Gone, who has hold, what the tags are, and though Next has a Left.
func TestJoinAsksForNothing(t *testing.T) {
	for _, rest := range []int64{0, 5} {
		eachMove(24, func(s impl.Shared, h impl.Hand) {
			for i := range s.Nodes {
				s.Nodes[i].Gone, s.Nodes[i].Owner = i != 0, 0
				s.Nodes[i].LeftTag, s.Nodes[i].RightTag = 10000, 10000
			}
			s.Nodes[h.Next].Left, s.Nodes[h.Next].Right = 7, rest
			for kid := range int64(8) {
				s.Nodes[h.New].Right = kid
				if h.Up != h.Cur {
					s.Nodes[h.Up].Left = kid
				}
				want, hand := joined(s, h)
				moves.check(t, "join", s, 1, h, want, hand, true)
			}
		})
	}
}

// The tag at New's right, or at Up's left, is one more, up to its limit and not past it; those beside it stay, be they at the limit.
func TestJoinTag(t *testing.T) {
	eachMove(25, func(s impl.Shared, h impl.Hand) {
		joint, side := h.Up, int64(0)
		if h.Up == h.Cur {
			joint, side = h.New, 1
		}
		for _, tag := range []int64{0, 1, 77, 9998, 9999, 10000} {
			for _, other := range []int64{0, 78, 10000} {
				for i := range s.Nodes {
					s.Nodes[i].LeftTag, s.Nodes[i].RightTag = other, other
				}
				bare := s.Nodes[joint]
				s.Nodes[joint] = tagged(bare, side, tag, other)
				if tag == 10000 {
					moves.refuses(t, "a tag at its limit", s, 1, h)
					continue
				}
				both(h, func(h impl.Hand) {
					want, hand := cloned(s), h
					want.Nodes[joint] = tagged(bare, side, tag+1, other)
					hand.At, hand.Reply = 26, 1
					moves.check(t, "join tag", s, 1, h, want, hand, true)
				})
			}
		}
	})
}

// Nothing may hang at the root's left, be the root Prev or Up; its tag may be counted, and the root may be locked.
func TestMovesAtTheRootsLeft(t *testing.T) {
	s := sharedOf(fiveKeys(), 0, 0)
	in := impl.Hand{At: 21, Call: cut20, Cur: 1, Up: 3, Next: 4, New: 5, Seen: -1}
	moves.refuses(t, "in", s, 1, in)
	h := impl.Hand{At: 16, Call: cut20, Prev: 1, Cur: 2, Next: 3, New: 5, Seen: -1}
	hand := h
	hand.At = 17
	moves.check(t, "lock", s, 1, h, sharedOf(withOwner(s.Nodes, 0, 2), 0, 0), hand, true)
	h.At = 18
	moves.beginsAnew(t, "check", s, h)
	h.At = 24
	moves.refuses(t, "join of a kid", s, 1, h)
	s.Nodes[3].Right = 0
	hand.At = 25
	moves.check(t, "join of none", s, 1, h, s, hand, true)
	h.At = 25
	want := cloned(s)
	want.Nodes[0].LeftTag = 1
	hand.At, hand.Reply = 26, 1
	moves.check(t, "join tag", s, 1, h, want, hand, true)
	s.Nodes[0].LeftTag = 10000
	moves.refuses(t, "join tag at the limit", s, 1, h)
}

// Numbers that are alike are taken as the words tell.
func TestMovesOfNodesThatAreAlike(t *testing.T) {
	for _, at := range moves.places {
		for code := range int64(4 * 4 * 4 * 4 * 4) {
			for side := range int64(2) {
				h := impl.Hand{At: at, Call: cut20, Prev: code % 4, Cur: code / 4 % 4, Side: side, Up: code / 16 % 4, Next: code / 64 % 4, New: code / 256, Seen: -1}
				for _, left := range []int64{0, 1} {
					nodes := fiveKeys()
					nodes[1].Left, nodes[2].Left, nodes[3].Left, nodes[2].Right = left, 3*left, left, 2
					nodes[2].Owner = left
					moves.asWords(t, "alike", sharedOf(nodes, 0, 0), 1, h)
				}
			}
		}
	}
}

// eachPlace goes through each place with hands of every call, with what is held and what is not.
func eachPlace(do func(s impl.Shared, h impl.Hand)) {
	taken := wide()
	for i := range taken.Nodes {
		taken.Nodes[i].Owner = int64(i % 7)
	}
	for _, s := range []impl.Shared{wide(), wideOf(17), taken} {
		for _, at := range moves.places {
			for _, c := range rightCalls() {
				do(s, atWork(at, c))
			}
		}
	}
}

// An add or a get is refused at each place, and does not wait where a node is held.
func TestOnlyACutMoves(t *testing.T) {
	eachPlace(func(s impl.Shared, h impl.Hand) {
		for _, upIsCur := range []bool{false, true} {
			if upIsCur {
				h.Up = h.Cur
			}
			if h.Call.Code != 3 {
				moves.refuses(t, "no cut", s, 2, h)
				continue
			}
			moves.asWords(t, "a cut", s, 2, h)
		}
	})
}

// A Cur of 0 is refused at each place, a Next of 0 from AtLeft on, a New of 0 from AtIn on; ahead of that they are taken.
func TestMovesOfNone(t *testing.T) {
	eachPlace(func(s impl.Shared, h impl.Hand) {
		if h.Call.Code != 3 {
			return
		}
		for _, none := range []struct {
			name  string
			field *int64
			from  int64
		}{{"Cur", &h.Cur, 14}, {"Next", &h.Next, 15}, {"New", &h.New, 21}} {
			was := *none.field
			*none.field = 0
			if h.At >= none.from {
				moves.refuses(t, none.name, s, 2, h)
			} else if _, hand, _ := impl.MoveStep(s, 2, h); hand.At == 0 {
				t.Errorf("%+v: refused for a %s of 0", h, none.name)
			}
			moves.asWords(t, none.name, s, 2, h)
			*none.field = was
		}
	})
}

// With each Up and each Prev, held or not.
func TestMovesOfNoneWhereTheRestIsRight(t *testing.T) {
	for owner := range int64(7) {
		s := sharedOf(withOwner(withOwner(held(), 0, owner), 4, owner), 0, 0)
		for _, at := range moves.places {
			for up := range int64(7) {
				for none := range 3 {
					h := impl.Hand{At: at, Call: cut20, Prev: up, Cur: 1, Side: 1, Up: up, Next: 4, New: 5, Seen: -1}
					*[]*int64{&h.Cur, &h.Next, &h.New}[none] = 0
					moves.asWords(t, "none", s, 1, h)
				}
			}
		}
	}
	for _, at := range moves.places {
		moves.refuses(t, "the root alone", sharedOf(impl.Roots(), 0), 0, impl.Hand{At: at, Call: cut20, Side: 1, Seen: -1})
	}
}

// AtSync lies between two of this chapter's places, and is not of it, whoever walks.
func TestSyncIsNotHere(t *testing.T) {
	eachMove(22, func(s impl.Shared, h impl.Hand) {
		for index := range int64(7) {
			for _, seen := range []int64{-1, 0, 3, 4} {
				h.Index, h.Seen = index, seen
				moves.refuses(t, "sync", sharedOf(s.Nodes, 3, 4), 1, h)
			}
		}
	})
}

func TestNumbersOfNodesOfAMove(t *testing.T) {
	moves.checkLastNodes(t, 3, impl.Hand{Call: cut20, Prev: 1, Cur: 1, Side: 1, Up: 1, Next: 2, New: 1, Seen: -1})
}

func TestMoveStepAsTheOthers(t *testing.T) { moves.checkCommon(t) }

func TestMoveStepByChance(t *testing.T) {
	if waited := moves.checkByChance(t, 103); waited < 400 {
		t.Errorf("only %d of 20000 waited", waited)
	}
}

func TestARefusalOfAMoveGoesAheadOfWaiting(t *testing.T) {
	s := sharedOf(held(0, 0, 0, 1, 1), 0, 0)
	for at := int64(16); at <= 17; at++ {
		waiting := impl.Hand{At: at, Call: cut20, Prev: 0, Cur: 1, Side: 1, Up: 3, Next: 4, Seen: -1}
		moves.refusesAheadOfWaiting(t, s, waiting)
		moves.waits(t, "right", s, 0, waiting)
		noCur, noNext, add := waiting, waiting, waiting
		noCur.Cur, noNext.Next, add.Call = 0, 0, add20
		for name, h := range map[string]impl.Hand{"a Cur of none": noCur, "a Next of none": noNext, "an add": add} {
			moves.refuses(t, name, s, 0, h)
		}
	}
}

// A step that does nothing to a list, and one that waits, answer a new one all the same.
func TestMoveStepIsNewMemory(t *testing.T) {
	waiting := wide()
	waiting.Nodes[14].Owner, waiting.Nodes[15].Owner = 2, 2
	for _, at := range moves.places {
		for _, s := range []impl.Shared{wide(), wideOf(28), waiting} {
			moves.checkNewMemory(t, s, 3, atWork(at, cut20))
		}
		eachMove(at, func(s impl.Shared, h impl.Hand) { moves.checkNewMemory(t, s, 1, h) })
	}
}
