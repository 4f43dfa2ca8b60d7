package tests

import (
	"math/rand"
	"slices"
	"testing"

	"loop.example/g00783/impl"
)

// Moves all the way, of one who is alone and of many at once.

// atNext is a hand that has hold of what it cuts and of what that hangs at, and has seen that it has a kid at either side.
func atNext(t *testing.T, s impl.Shared, task, key int64) (impl.Shared, impl.Hand) {
	t.Helper()
	s, h := atLockCur(t, s, task, key)
	s, h, _ = cutting(t, s, task, h, asItIs)
	if h.At != 14 {
		t.Fatalf("not at the next one: %+v", h)
	}
	return s, h
}

// holds is what a move has hold of at that place.
func holds(h impl.Hand) []int64 {
	nodes := []int64{h.Prev, h.Cur}
	if h.At >= 17 {
		nodes = append(nodes, h.Up)
	}
	if h.At >= 18 {
		nodes = append(nodes, h.Next)
	}
	if h.At >= 20 && h.New != 0 {
		nodes = append(nodes, h.New)
	}
	slices.Sort(nodes)
	return slices.Compact(nodes)
}

// moving steps from AtNext on till the hand has to let go, with what stands for AtSync; it checks what is held behind each step, and tells the places that it came to. behind is done behind each.
func moving(t *testing.T, s impl.Shared, task int64, h impl.Hand, behind func(s impl.Shared, h impl.Hand)) (impl.Shared, impl.Hand, []int64) {
	t.Helper()
	var places []int64
	for h.At != 26 {
		if len(places) > 60 {
			t.Fatalf("%+v: no end", h)
		}
		if h.At == 22 {
			h = synced(s, task, h)
		} else {
			s, h = moves.done(t, s, task, h)
		}
		if !slices.Equal(impl.HeldBy(s.Nodes, task), holds(h)) {
			t.Fatalf("%+v: holds %v", h, impl.HeldBy(s.Nodes, task))
		}
		if places = append(places, h.At); h.At == 22 && h.Index > 0 {
			places = places[:len(places)-1]
		}
		behind(s, h)
	}
	return s, h, places
}

// movedUp is what is there when the next greater one has moved up to where the node at was, and by which places.
func movedUp(nodes []impl.Node, at, task int64) ([]impl.Node, []int64) {
	nodes, places := slices.Clone(nodes), []int64{15}
	up, next, last := at, nodes[at].Right, int64(len(nodes))
	for nodes[next].Left != 0 {
		up, next, places = next, nodes[next].Left, append(places, 15)
	}
	if up != at {
		places = append(places, 16)
	}
	places = append(places, 17, 18, 19, 20, 21, 22, 23, 24)
	for i, n := range nodes {
		switch {
		case n.Gone:
		case n.Left == at:
			nodes[i].Left = last
		case n.Right == at:
			nodes[i].Right = last
		}
	}
	moved := impl.Node{Key: nodes[next].Key, Value: nodes[next].Value, Left: nodes[at].Left, Right: nodes[at].Right}
	rest, bump := nodes[next].Right, int64(0)
	if rest == 0 {
		bump, places = 1, append(places, 25)
	}
	nodes[at].Gone, nodes[next].Gone = true, true
	if up == at {
		moved.Right, moved.RightTag = rest, bump
	} else {
		nodes[up].Left, nodes[up].LeftTag = rest, nodes[up].LeftTag+bump
	}
	return append(nodes, moved), append(places, 26)
}

// checkMovedAlone checks a cut of a key that has a kid at either side, of one who is alone, all the way.
func checkMovedAlone(t *testing.T, nodes []impl.Node, key, task int64) []impl.Node {
	t.Helper()
	at := impl.FoundIn(nodes, key)
	s, h := atNext(t, sharedOf(nodes, 2, 4, 6), task, key)
	s, h, places := moving(t, s, task, h, asItIs)
	s = letGo(t, s, task)
	if len(nodes) == 30 {
		if h.Reply != 3 || h.Again || !slices.Equal(s.Nodes, nodes) || !slices.Equal(places[len(places)-3:], []int64{18, 19, 26}) {
			t.Errorf("%d, where there is no room, by %v: %+v", key, places, h)
		}
		return nodes
	}
	want, wantPlaces := movedUp(nodes, at, task)
	if !slices.Equal(s.Nodes, want) || !slices.Equal(places, wantPlaces) || h.Again || h.Reply != 1 || h.Cur != at {
		t.Errorf("%d by %v, not %v: %+v\n%+v, not\n%+v", key, places, wantPlaces, h, s.Nodes, want)
	}
	checkMoveInTheTree(t, nodes, s, at, want[len(nodes)].Key)
	return s.Nodes
}

// checkMoveInTheTree checks that the next greater key is where the one that was cut had been, and that each other one can be found still.
func checkMoveInTheTree(t *testing.T, before []impl.Node, s impl.Shared, at, moved int64) {
	t.Helper()
	pairs := impl.PairsIn(before)
	i := slices.IndexFunc(pairs, func(p impl.Pair) bool { return p.Key == before[at].Key })
	if pairs[i+1].Key != moved {
		t.Errorf("%d moves up for %d of %v", moved, before[at].Key, pairs)
	}
	pairs = slices.Delete(pairs, i, i+1)
	if !impl.TreeOk(s.Nodes) || !slices.Equal(impl.PairsIn(s.Nodes), pairs) {
		t.Errorf("%d is cut: %v, not %v", before[at].Key, impl.PairsIn(s.Nodes), pairs)
	}
	for _, p := range pairs {
		if _, h, _ := looked(t, s, 0, called(t, impl.Call{Code: 1, Key: p.Key})); h != impl.Resting(1, p.Value) {
			t.Errorf("%d is cut, and %+v found as %+v", before[at].Key, p, h)
		}
	}
	if _, h, _ := looked(t, s, 0, called(t, impl.Call{Code: 1, Key: before[at].Key})); h != impl.Resting(2, 0) {
		t.Errorf("%d is cut, and found: %+v", before[at].Key, h)
	}
}

// cutAlone is checkCutAlone or checkMovedAlone, as the key wants it.
func cutAlone(t *testing.T, nodes []impl.Node, key, task int64) []impl.Node {
	t.Helper()
	if hasBoth(nodes[impl.FoundIn(nodes, key)]) {
		return checkMovedAlone(t, nodes, key, task)
	}
	return checkCutAlone(t, nodes, key, task)
}

// leftTrees is trees whose next greater one is far down at the left, next to the top, and between, each with a kid at its right and without.
func leftTrees() [][]impl.Node {
	return [][]impl.Node{
		hung(2, 1, 3), hung(2, 1, 3, 4), hung(2, 1, 9, 3), hung(2, 1, 9, 3, 4), hung(2, 1, 9, 3, 5, 4, 6), hung(2, 1, 9, 8, 7, 6, 5, 4, 3),
		hung(50, 20, 10, 30, 25, 40, 90, 70, 60, 65, 80, 95), hung(0, 50, 49, 99, 51, 98, 52), hung(99, 50, 10, 98, 51, 97, 52, 60), hung(50, 0, 99),
	}
}

func TestWhoCutsWhatHasBothSidesMovesTheNextGreaterOneUp(t *testing.T) {
	moved := 0
	for _, nodes := range append(taggedTrees(), leftTrees()...) {
		for _, p := range impl.PairsIn(nodes) {
			for task := range int64(3) {
				if hasBoth(nodes[impl.FoundIn(nodes, p.Key)]) {
					checkMovedAlone(t, nodes, p.Key, task)
					moved++
				}
			}
		}
	}
	if moved < 500 {
		t.Errorf("only %d have moved up", moved)
	}
}

// Whatever has the most room to be moved: each of 28 keys, and no more of 29.
func TestMovingUpTillThereIsNoRoom(t *testing.T) {
	for keys := 3; keys <= 29; keys++ {
		nodes := wideOf(keys).Nodes
		for range 40 {
			if at := nodes[0].Right; hasBoth(nodes[at]) {
				nodes = checkMovedAlone(t, nodes, nodes[at].Key, 1)
			}
		}
		if top := nodes[nodes[0].Right]; len(nodes) != 30 && hasBoth(top) {
			t.Errorf("%d nodes, and at the top %+v", len(nodes), top)
		}
	}
}

// Of any tree nothing is left at last, in whatever order: where there is no room any more, a key waits for the ones below it.
func TestCuttingAnyKeyTillNothingIsLeft(t *testing.T) {
	trees := append(taggedTrees(), append(leftTrees(), taggedTrees()...)...)
	cutTillNothingIsLeft(t, rand.New(rand.NewSource(100)), trees, cutAlone, func(nodes []impl.Node, at int64) bool { return len(nodes) < 30 || !hasBoth(nodes[at]) })
}

// What has moved up can be cut, moved up again, and added again.
func TestAddingAndCuttingAnyKeyByTurns(t *testing.T) {
	addAndCutByTurns(t, rand.New(rand.NewSource(101)), cutAlone)
}

// From AtIn to AtJoin the next greater one is there twice, so that it is no tree; ahead of that and behind, it is one, but for what is Gone and hangs there still.
func TestItIsThereTwiceForAWhile(t *testing.T) {
	for _, nodes := range leftTrees() {
		s, h := atNext(t, sharedOf(nodes, 0), 0, nodes[topWithBoth(nodes)].Key)
		moving(t, s, 0, h, func(s impl.Shared, h impl.Hand) {
			if want := h.At <= 20 || h.At >= 25; impl.TreeOk(s.Nodes) != want {
				t.Errorf("at %d a tree: %v", h.At, !want)
			}
			ways := 0
			for _, n := range s.Nodes {
				if !n.Gone && n.Key == s.Nodes[h.Next].Key {
					ways++
				}
			}
			if twice := h.At >= 20 && h.At <= 23; twice != (ways == 2) {
				t.Errorf("at %d it is there %d times", h.At, ways)
			}
		})
	}
}

// topWithBoth is the first node with a kid at either side.
func topWithBoth(nodes []impl.Node) int64 { return int64(slices.IndexFunc(nodes, hasBoth)) }

// Two have found the same key: the second one waits till the first one is done, and finds another one there then.
func TestTwoMovesOfOneKey(t *testing.T) {
	for _, nodes := range append(leftTrees(), fiveKeys()) {
		key := nodes[topWithBoth(nodes)].Key
		s, first := atNext(t, sharedOf(nodes, 0, 0), 0, key)
		s, second := atLock(t, s, 1, impl.Call{Code: 3, Key: key})
		s, first, _ = moving(t, s, 0, first, func(s impl.Shared, _ impl.Hand) { adds.waits(t, "the second", s, 1, second) })
		s, second = adds.done(t, letGo(t, s, 0), 1, second)
		s, second = cuts.done(t, s, 1, second)
		s, second = cuts.done(t, s, 1, second)
		if first.Reply != 1 || second.At != 26 || !second.Again || second.Reply != 0 {
			t.Errorf("%d: %+v %+v", key, first, second)
		}
		checkCutAlone(t, letGo(t, s, 1).Nodes, key, 1)
	}
}

// upTo steps till the hand is at that place.
func upTo(t *testing.T, s impl.Shared, task int64, h impl.Hand, at int64) (impl.Shared, impl.Hand) {
	t.Helper()
	for range 40 {
		if h.At != at {
			s, h = moves.done(t, s, task, h)
		}
	}
	if h.At != at {
		t.Fatalf("not at %d: %+v", at, h)
	}
	return s, h
}

// checkChanged checks that what another one does ahead of that place has a cut of 50 begin anew, and that the right one moves up then.
func checkChanged(t *testing.T, keys []int64, at, moved int64, change func(nodes []impl.Node) []impl.Node) {
	t.Helper()
	s, h := atNext(t, sharedOf(hung(keys...), 0, 0, 0), 0, 50)
	s, h = upTo(t, s, 0, h, at)
	s, h = upTo(t, sharedOf(change(s.Nodes), 0, 0, 0), 0, h, 18)
	if s, h = moves.done(t, s, 0, h); h.At != 26 || !h.Again || h.Reply != 0 {
		t.Errorf("%v: does not begin anew, %+v", keys, h)
	}
	after := checkMovedAlone(t, letGo(t, s, 0).Nodes, 50, 0)
	if last := after[len(after)-1]; last.Key != moved {
		t.Errorf("%v: %+v has moved up", keys, last)
	}
}

// A lesser one comes ahead of the lock of Up or of Next: it is the next greater one then.
func TestALesserOneComesAheadOfTheLock(t *testing.T) {
	add := func(nodes []impl.Node) []impl.Node {
		return checkAddedAlone(t, nodes, impl.Call{Code: 2, Key: 60}, 1).Nodes
	}
	for at := int64(16); at <= 17; at++ {
		checkChanged(t, []int64{50, 20, 90, 70}, at, 60, add)
		checkChanged(t, []int64{50, 20, 90, 70, 80}, at, 60, add)
	}
	checkChanged(t, []int64{50, 20, 70}, 17, 60, add)
	checkChanged(t, []int64{50, 20, 70, 80}, 17, 60, add)
}

// The next greater one is cut ahead of the lock of Up, with a kid and without one.
func TestTheNextOneIsCutAheadOfTheLock(t *testing.T) {
	for _, c := range []struct {
		cut, moved int64
		keys       []int64
	}{{70, 90, []int64{50, 20, 90, 70}}, {70, 80, []int64{50, 20, 90, 70, 80}}, {60, 70, []int64{50, 20, 90, 70, 60, 80}}} {
		checkChanged(t, c.keys, 16, c.moved, func(nodes []impl.Node) []impl.Node { return checkCutAlone(t, nodes, c.cut, 1) })
	}
}

// What hangs at a node that is held can't be cut: it waits.
func TestNobodyCutsTheNextOneAtWhatIsHeld(t *testing.T) {
	for _, c := range []struct {
		at   int64
		keys []int64
	}{{15, []int64{50, 20, 70}}, {17, []int64{50, 20, 70, 80}}, {17, []int64{50, 20, 90, 70}}, {18, []int64{50, 20, 90, 70, 80}}} {
		s, h := atNext(t, sharedOf(hung(c.keys...), 0, 0, 0), 0, 50)
		s, h = upTo(t, s, 0, h, c.at)
		s, cut := atLock(t, s, 1, impl.Call{Code: 3, Key: 70})
		adds.waits(t, "the cut of the next one", s, 1, cut)
	}
}

// What Next hangs at is cut ahead of the locks, so that Next is lifted, or hangs at what has moved up.
func TestUpIsCutAheadOfTheLock(t *testing.T) {
	for _, keys := range [][]int64{{50, 20, 95, 90, 70}, {50, 20, 95, 90, 70, 80}, {50, 20, 95, 90, 70, 92}, {50, 20, 95, 90, 70, 93, 92}} {
		checkChanged(t, keys, 16, 70, func(nodes []impl.Node) []impl.Node { return cutAlone(t, nodes, 90, 1) })
	}
}

// An adder has found a place at the left of the next greater one, which moves up: he begins anew, and is hung elsewhere.
func TestAnAdderBelowWhatMovesUp(t *testing.T) {
	for _, keys := range [][]int64{{50, 20, 90, 70}, {50, 20, 90, 70, 80}, {50, 20, 70}, {50, 20, 70, 80}} {
		for _, key := range []int64{51, 60, 69, 71} {
			s, adder := atLock(t, sharedOf(hung(keys...), 0, 0), 1, impl.Call{Code: 2, Key: key, Value: 5})
			if s.Nodes[adder.Prev].Key != 70 {
				continue
			}
			s, h := atNext(t, s, 0, 50)
			s, h = upTo(t, s, 0, h, 18)
			s, h, _ = moving(t, s, 0, h, func(s impl.Shared, _ impl.Hand) { adds.waits(t, "the adder", s, 1, adder) })
			s, adder = adds.done(t, letGo(t, s, 0), 1, adder)
			if s, adder = adds.done(t, s, 1, adder); h.Reply != 1 || !adder.Again {
				t.Errorf("%d: %+v %+v", key, h, adder)
			}
			checkAddedAlone(t, letGo(t, s, 1).Nodes, adder.Call, 1)
		}
	}
}

// An adder has found a place at the left of Up, where nothing is any more when the next greater one has moved up from there, as ahead of that one: only the tag tells.
func TestAMoveTellsAnAdderByTheTag(t *testing.T) {
	s, adder := atLock(t, sharedOf(hung(50, 20, 90), 0, 0, 0), 1, impl.Call{Code: 2, Key: 60})
	nodes := checkAddedAlone(t, s.Nodes, impl.Call{Code: 2, Key: 70}, 0).Nodes
	nodes = checkMovedAlone(t, nodes, 50, 0)
	if nodes[3].Left != 0 || nodes[3].LeftTag != 1 {
		t.Fatalf("%+v", nodes)
	}
	s, adder = adds.done(t, sharedOf(nodes, 0, 0, 0), 1, adder)
	if s, adder = adds.done(t, s, 1, adder); adder.At != 26 || !adder.Again {
		t.Errorf("%+v", adder)
	}
	after := checkAddedAlone(t, letGo(t, s, 1).Nodes, adder.Call, 1)
	if last := int64(len(after.Nodes) - 1); after.Nodes[3].Left == last {
		t.Errorf("60 hangs at the left of 90, where 70 is above it: %+v", after.Nodes)
	}
}

// checkReaderOfAMove checks one who looks for a key while another one is cut: some steps of the walk, some of the cut, the rest of the walk, the rest of the cut.
func checkReaderOfAMove(t *testing.T, nodes []impl.Node, key, cut int64, ofWalk, ofCut int) {
	t.Helper()
	s, reader := stepsOf(t, sharedOf(nodes, 0, 0, 0), called(t, impl.Call{Code: 1, Key: key}), ofWalk)
	at := impl.FoundIn(nodes, key)
	want := impl.Resting(1, nodes[at].Value)
	onIt := reader.Cur == at || reader == want
	s, cutter := atNext(t, s, 1, cut)
	for range ofCut {
		switch cutter.At {
		case 22:
			cutter = synced(s, 1, cutter)
		case 26:
		default:
			s, cutter = moves.done(t, s, 1, cutter)
		}
	}
	walks := reader.At != 0 && reader.At != 1
	if cutter.At > 22 && walks {
		t.Errorf("%d moves on behind %d steps, and somebody walks: %+v", cut, ofWalk, cutter)
	}
	in := cutter.At >= 22
	if s, reader = stepsOf(t, s, reader, 40); key == cut && in && !onIt {
		// Who was at the one that is cut goes on as ahead of it.
		want = impl.Resting(2, 0)
	}
	if reader != want {
		t.Errorf("%d while %d is cut, at %d behind %d steps: %+v, not %+v", key, cut, cutter.At, ofWalk, reader, want)
	}
	if s, cutter, _ = moving(t, s, 1, cutter, asItIs); cutter.Reply != 1 || !impl.TreeOk(s.Nodes) {
		t.Errorf("%d is not cut behind a reader: %+v", cut, cutter)
	}
}

// Whoever walks meanwhile finds each other key, be it the one that moves up, and this one till another one has its place.
func TestReadersWhileOneMovesUp(t *testing.T) {
	for _, nodes := range append(leftTrees(), fiveKeys(), hung(50, 10, 30, 20, 40, 90, 60, 70)) {
		pairs := impl.PairsIn(nodes)
		for _, cut := range pairs {
			if !hasBoth(nodes[impl.FoundIn(nodes, cut.Key)]) {
				continue
			}
			for _, key := range pairs {
				for ofWalk := range 10 {
					for ofCut := range 22 {
						checkReaderOfAMove(t, nodes, key.Key, cut.Key, ofWalk, ofCut)
					}
				}
			}
		}
	}
}

// By turns of whoever comes, each key is in the tree just from where it is hung till it is lifted out, or till another one has its place; and nobody is told what was true at no time.
func TestManyMoveAtOnce(t *testing.T) {
	chance := rand.New(rand.NewSource(102))
	moved, agains, full := 0, 0, 0
	for _, keys := range []int64{5, 9, 14, 20, 25} {
		for range 80 {
			var hang []int64
			for _, i := range chance.Perm(int(keys)) {
				hang = append(hang, int64(i)*37%100)
			}
			codes := []int64{1, 2, 3, 3, 3}
			c := newCrew(hung(hang...), 9, func() impl.Call { return chanceCall(chance, keys, codes[chance.Intn(5)]) })
			c.work(t, chance)
			moved, agains = moved+c.moves, agains+c.agains[18]
			if len(c.s.Nodes) == 30 {
				full++
			}
		}
	}
	if moved < 800 || agains < 50 || full < 50 {
		t.Errorf("only %d have moved up, %d checks failed, and %d had no room: too few in each other's way", moved, agains, full)
	}
}
