package tests

import (
	"math"
	"math/rand"
	"slices"
	"testing"

	"loop.example/g00783/impl"
)

var noTasks = []int64{math.MinInt64, math.MinInt64 + 1, -7, -2, -1, 6, 7, math.MaxInt64 - 1, math.MaxInt64}

var allTasks = []int64{0, 1, 2, 3, 4, 5}

var noPlaces = []int64{math.MinInt64, -7, -1, 7, 8, 29, 30, math.MaxInt64}

// held is fiveKeys with these Owners, one of each node from the root on, and tags, so that each field of a node has something to lose.
func held(owners ...int64) []impl.Node {
	nodes := fiveKeys()
	for i := range nodes {
		nodes[i].LeftTag, nodes[i].RightTag = int64(10+i), int64(20+i)
	}
	for i, owner := range owners {
		nodes[i].Owner = owner
	}
	return nodes
}

func withOwner(nodes []impl.Node, at, owner int64) []impl.Node {
	nodes = slices.Clone(nodes)
	nodes[at].Owner = owner
	return nodes
}

// nodesNotRight is one list of each kind that NodesOk refuses, and some of them are wrong only far from the node that is asked for.
func nodesNotRight() map[string][]impl.Node {
	lists := map[string][]impl.Node{
		"nil":            nil,
		"empty":          {},
		"no root":        {{Key: 50}, {Key: 20}},
		"too many":       manyNodes(31),
		"a root gone":    {{Key: -1, Gone: true}, {Key: 20}},
		"an Owner past":  held(0, 0, 0, 0, 0, 0, 7),
		"an Owner below": held(0, 0, 0, 0, 0, 0, -1),
		"greatest Owner": held(0, 0, 0, 0, 0, 0, math.MaxInt64),
		"least Owner":    held(math.MinInt64),
	}
	link := held()
	link[6].Right = 7
	lists["a link past the end"] = link
	tag := held()
	tag[1].RightTag = 10001
	lists["a tag past its limit"] = tag
	key := held()
	key[6].Key = math.MaxInt64
	lists["the greatest key"] = key
	value := held()
	value[6].Value = math.MinInt64
	lists["the least value"] = value
	return lists
}

func checkHeldBy(t *testing.T, nodes []impl.Node, task int64, want ...int64) {
	t.Helper()
	if got := impl.HeldBy(nodes, task); !slices.Equal(got, want) {
		t.Errorf("task %d has %v, not %v", task, got, want)
	}
}

// checkHold checks what Locked or Unlocked answered.
func checkHold(t *testing.T, name string, nodes []impl.Node, is bool, wantNodes []impl.Node, want bool) {
	t.Helper()
	if is != want || !slices.Equal(nodes, wantNodes) {
		t.Errorf("%s: %v %+v, not %v %+v", name, is, nodes, want, wantNodes)
	}
}

func TestHeldByTellsAllOfOneTask(t *testing.T) {
	nodes := held(1, 6, 3, 1, 0, 6, 1)
	checkHeldBy(t, nodes, 0, 0, 3, 6)
	checkHeldBy(t, nodes, 5, 1, 5)
	checkHeldBy(t, nodes, 2, 2)
	for _, task := range []int64{1, 3, 4} {
		checkHeldBy(t, nodes, task)
	}
	for _, task := range allTasks {
		checkHeldBy(t, held(), task)
		checkHeldBy(t, impl.Roots(), task)
	}
}

// A map gives its keys in another order each time; 30 keys are hardly ever in order by chance.
func TestHeldByRises(t *testing.T) {
	nodes := manyNodes(30)
	var even, odd []int64
	for i := range nodes {
		nodes[i].Owner = int64(1 + 5*(i%2))
		if i%2 == 0 {
			even = append(even, int64(i))
		} else {
			odd = append(odd, int64(i))
		}
	}
	for range 20 {
		checkHeldBy(t, nodes, 0, even...)
		checkHeldBy(t, nodes, 5, odd...)
	}
}

// Who is no task holds nothing: not what has no Owner, either.
func TestHeldByNoTask(t *testing.T) {
	for _, nodes := range [][]impl.Node{held(), held(1, 2, 3, 4, 5, 6, 0), held(6, 6, 6, 6, 6, 6, 6), impl.Roots()} {
		for _, task := range noTasks {
			checkHeldBy(t, nodes, task)
		}
	}
}

func TestLockedHasItAloneTillItIsLetGo(t *testing.T) {
	for _, task := range allTasks {
		for at := range int64(7) {
			free := held()
			mine, is := impl.Locked(free, at, task)
			checkHold(t, "free", mine, is, withOwner(free, at, task+1), true)
			checkHeldBy(t, mine, task, at)
			for _, other := range allTasks {
				got, is := impl.Locked(mine, at, other)
				checkHold(t, "locked already", got, is, mine, false)
				if other != task {
					got, is = impl.Unlocked(mine, at, other)
					checkHold(t, "let go by another", got, is, mine, false)
					checkHeldBy(t, mine, other)
				}
			}
			again, is := impl.Unlocked(mine, at, task)
			checkHold(t, "let go", again, is, free, true)
			got, is := impl.Unlocked(again, at, task)
			checkHold(t, "let go twice", got, is, free, false)
			next, is := impl.Locked(again, at, 5-task)
			checkHold(t, "the next one's", next, is, withOwner(free, at, 6-task), true)
		}
	}
}

func TestHoldIsOfOneNodeOnly(t *testing.T) {
	nodes := held(1, 6, 0, 1, 0, 2, 0)
	got, is := impl.Locked(nodes, 2, 0)
	checkHold(t, "one more of the same task", got, is, held(1, 6, 1, 1, 0, 2, 0), true)
	checkHeldBy(t, got, 0, 0, 2, 3)
	got, is = impl.Unlocked(nodes, 3, 0)
	checkHold(t, "one of two", got, is, held(1, 6, 0, 0, 0, 2, 0), true)
	checkHeldBy(t, got, 0, 0)
	got, is = impl.Unlocked(nodes, 0, 0)
	checkHold(t, "the root", got, is, held(0, 6, 0, 1, 0, 2, 0), true)
	checkHeldBy(t, got, 0, 3)
}

// What is Gone, or no walk comes to, or is no tree, can be held as well.
func TestHoldAsksForNoTree(t *testing.T) {
	nodes := held()
	nodes[1].Gone, nodes[2].Left, nodes[3].Key = true, 2, 50
	for at := range int64(7) {
		mine, is := impl.Locked(nodes, at, 3)
		checkHold(t, "locked", mine, is, withOwner(nodes, at, 4), true)
		checkHeldBy(t, mine, 3, at)
		got, is := impl.Unlocked(mine, at, 3)
		checkHold(t, "let go", got, is, nodes, true)
	}
}

func TestHoldAtTheLastOfMany(t *testing.T) {
	nodes := manyNodes(30)
	mine, is := impl.Locked(nodes, 29, 5)
	checkHold(t, "the last", mine, is, withOwner(nodes, 29, 6), true)
	checkHeldBy(t, mine, 5, 29)
	for _, at := range []int64{30, 31, -1} {
		got, is := impl.Locked(mine, at, 5)
		checkHold(t, "past it", got, is, mine, false)
		got, is = impl.Unlocked(mine, at, 5)
		checkHold(t, "past it", got, is, mine, false)
	}
}

func TestNoSuchPlace(t *testing.T) {
	for _, nodes := range [][]impl.Node{held(), held(1, 1, 1, 1, 1, 1, 1), held(0, 1, 2, 3, 4, 5, 6)} {
		for _, task := range allTasks {
			for _, at := range noPlaces {
				got, is := impl.Locked(nodes, at, task)
				checkHold(t, "locked", got, is, nodes, false)
				got, is = impl.Unlocked(nodes, at, task)
				checkHold(t, "let go", got, is, nodes, false)
			}
		}
	}
}

// Nothing is answered of no task, not even where there is no such node or it can't be had.
func TestHoldOfNoTask(t *testing.T) {
	for _, nodes := range [][]impl.Node{held(), held(0, 1, 2, 3, 4, 5, 6)} {
		for _, task := range noTasks {
			for _, at := range append([]int64{0, 1, 6}, noPlaces...) {
				got, is := impl.Locked(nodes, at, task)
				checkHold(t, "locked", got, is, nil, false)
				got, is = impl.Unlocked(nodes, at, task)
				checkHold(t, "let go", got, is, nil, false)
			}
		}
	}
}

func TestHoldOfNodesThatAreNotRight(t *testing.T) {
	for name, nodes := range nodesNotRight() {
		for _, task := range append(slices.Clone(allTasks), noTasks...) {
			checkHeldBy(t, nodes, task)
			for _, at := range append([]int64{0, 1, 6}, noPlaces...) {
				got, is := impl.Locked(nodes, at, task)
				checkHold(t, name, got, is, nil, false)
				got, is = impl.Unlocked(nodes, at, task)
				checkHold(t, name, got, is, nil, false)
			}
		}
	}
}

// All Owners of three nodes, with all places and tasks, right or not.
func TestHoldByWords(t *testing.T) {
	for i := range int64(9 * 9 * 9) {
		nodes := []impl.Node{{Key: -1, Owner: i%9 - 1}, {Key: 4, Value: 9, Owner: i/9%9 - 1}, {Key: 7, Left: 1, Owner: i/81 - 1}}
		right := !slices.ContainsFunc(nodes, func(n impl.Node) bool { return n.Owner < 0 || n.Owner > 6 })
		for task := int64(-2); task <= 8; task++ {
			var own []int64
			for at := int64(-2); at <= 4; at++ {
				there := at >= 0 && at < 3
				locked, unlocked := nodes, nodes
				free := there && nodes[at].Owner == 0
				mine := there && nodes[at].Owner == task+1
				if !right || task < 0 || task > 5 {
					locked, unlocked, free, mine = nil, nil, false, false
				}
				if free {
					locked = withOwner(nodes, at, task+1)
				}
				if mine {
					unlocked = withOwner(nodes, at, 0)
					own = append(own, at)
				}
				got, is := impl.Locked(nodes, at, task)
				checkHold(t, "locked", got, is, locked, free)
				got, is = impl.Unlocked(nodes, at, task)
				checkHold(t, "let go", got, is, unlocked, mine)
			}
			checkHeldBy(t, nodes, task, own...)
		}
	}
}

// By whoever comes, in any order: who has hold is told by a plain list of Owners beside it.
func TestHoldByChance(t *testing.T) {
	chance := rand.New(rand.NewSource(3))
	nodes, owners := held(), make([]int64, 7)
	for range 5000 {
		at, task := int64(chance.Intn(7)), int64(chance.Intn(6))
		call, from, to := impl.Locked, int64(0), task+1
		if chance.Intn(2) == 0 {
			call, from, to = impl.Unlocked, task+1, 0
		}
		want := owners[at] == from
		if want {
			owners[at] = to
		}
		after, is := call(nodes, at, task)
		checkHold(t, "by chance", after, is, held(owners...), want)
		nodes = after
		for _, task := range allTasks {
			var own []int64
			for at, owner := range owners {
				if owner == task+1 {
					own = append(own, int64(at))
				}
			}
			checkHeldBy(t, nodes, task, own...)
		}
	}
}

func TestHoldIsNewMemory(t *testing.T) {
	nodes := held(1, 0, 1)
	for name, answer := range map[string]func() ([]impl.Node, bool){
		"locked":          func() ([]impl.Node, bool) { return impl.Locked(nodes, 1, 3) },
		"not locked":      func() ([]impl.Node, bool) { return impl.Locked(nodes, 0, 3) },
		"nowhere locked":  func() ([]impl.Node, bool) { return impl.Locked(nodes, 7, 3) },
		"let go":          func() ([]impl.Node, bool) { return impl.Unlocked(nodes, 0, 0) },
		"not let go":      func() ([]impl.Node, bool) { return impl.Unlocked(nodes, 0, 3) },
		"nowhere let go":  func() ([]impl.Node, bool) { return impl.Unlocked(nodes, -1, 0) },
		"nobody's let go": func() ([]impl.Node, bool) { return impl.Unlocked(nodes, 1, 0) },
	} {
		first, _ := answer()
		want := slices.Clone(first)
		second, _ := answer()
		for i := range second {
			second[i] = full()
		}
		if len(first) != 7 || !slices.Equal(first, want) || !slices.Equal(nodes, held(1, 0, 1)) {
			t.Errorf("%s shares memory: %+v", name, nodes)
		}
	}
	first, second := impl.HeldBy(nodes, 0), impl.HeldBy(nodes, 0)
	second[0] = 77
	if !slices.Equal(first, []int64{0, 2}) {
		t.Errorf("lists of one task share memory: %v", first)
	}
}

func TestHoldLeavesItsArgument(t *testing.T) {
	for _, nodes := range [][]impl.Node{nil, impl.Roots(), held(), held(1, 6, 0, 3, 1), manyNodes(30), manyNodes(31)} {
		leavesNodes(t, nodes, func(nodes []impl.Node) {
			for _, task := range []int64{-1, 0, 5, 6} {
				impl.HeldBy(nodes, task)
				for _, at := range []int64{-1, 0, 1, 2, 30} {
					impl.Locked(nodes, at, task)
					impl.Unlocked(nodes, at, task)
				}
			}
		})
	}
}
