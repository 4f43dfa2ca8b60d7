package tests

import (
	"cmp"
	"math"
	"math/rand"
	"slices"
	"testing"

	"loop.example/g00783/impl"
)

// fiveKeys is the root and 50, 20, 80, 60 and 90, and behind them a node that no walk comes to.
func fiveKeys() []impl.Node {
	return []impl.Node{
		{Key: -1, Right: 1},
		{Key: 50, Value: 500, Left: 2, Right: 3},
		{Key: 20, Value: 200},
		{Key: 80, Value: 800, Left: 4, Right: 5},
		{Key: 60, Value: 600},
		{Key: 90, Value: 900},
		{Key: 60, Value: 1, Left: 6, Right: 1, Gone: true},
	}
}

// hung hangs a node of each key, one after the other, where it belongs.
func hung(keys ...int64) []impl.Node {
	nodes := []impl.Node{{Key: -1}}
	for _, key := range keys {
		link := &nodes[0].Right
		for *link != 0 {
			above := &nodes[*link]
			link = &above.Right
			if key < above.Key {
				link = &above.Left
			}
		}
		*link = int64(len(nodes))
		nodes = append(nodes, impl.Node{Key: key, Value: 3*key + 1})
	}
	return nodes
}

// isNoTree checks all that is answered of what is no tree.
func isNoTree(t *testing.T, name string, nodes []impl.Node) {
	t.Helper()
	if impl.TreeOk(nodes) {
		t.Errorf("%s: is a tree", name)
	}
	if got := impl.PairsIn(nodes); len(got) != 0 {
		t.Errorf("%s: pairs %v", name, got)
	}
	if got := impl.DepthOf(nodes); got != -1 {
		t.Errorf("%s: depth %d", name, got)
	}
	for _, key := range []int64{math.MinInt64, -1, 0, 20, 50, 60, 80, 90, 99, math.MaxInt64} {
		if got := impl.FoundIn(nodes, key); got != 0 {
			t.Errorf("%s: %d is at %d", name, key, got)
		}
	}
}

// isTree checks all that is answered of a tree of these pairs, of that depth, and that each other key is nowhere.
func isTree(t *testing.T, name string, nodes []impl.Node, pairs []impl.Pair, depth int64) {
	t.Helper()
	if !impl.TreeOk(nodes) {
		t.Errorf("%s: is no tree", name)
	}
	if got := impl.PairsIn(nodes); !slices.Equal(got, pairs) {
		t.Errorf("%s: pairs %v, not %v", name, got, pairs)
	}
	if got := impl.DepthOf(nodes); got != depth {
		t.Errorf("%s: depth %d, not %d", name, got, depth)
	}
	for key := int64(-2); key <= 101; key++ {
		at := impl.FoundIn(nodes, key)
		in := slices.IndexFunc(pairs, func(p impl.Pair) bool { return p.Key == key })
		if (at != 0) != (in >= 0) || at != 0 && (nodes[at].Key != key || nodes[at].Value != pairs[in].Value) {
			t.Errorf("%s: %d is at %d", name, key, at)
		}
	}
}

func pairsOf(keys ...int64) []impl.Pair {
	var pairs []impl.Pair
	for _, key := range slices.Sorted(slices.Values(keys)) {
		pairs = append(pairs, impl.Pair{Key: key, Value: 3*key + 1})
	}
	return pairs
}

func TestTheRootAlone(t *testing.T) {
	isTree(t, "the root", impl.Roots(), nil, 0)
	isTree(t, "a root that is held", []impl.Node{{Key: -1, Owner: 6, LeftTag: 1, RightTag: 10000}}, nil, 0)
}

func TestFiveKeys(t *testing.T) {
	isTree(t, "five keys", fiveKeys(), []impl.Pair{{Key: 20, Value: 200}, {Key: 50, Value: 500}, {Key: 60, Value: 600}, {Key: 80, Value: 800}, {Key: 90, Value: 900}}, 3)
}

func TestFoundInTellsTheNumber(t *testing.T) {
	for at, n := range fiveKeys()[:6] {
		want := int64(at)
		if got := impl.FoundIn(fiveKeys(), n.Key); got != want {
			t.Errorf("%d is at %d, not %d", n.Key, got, want)
		}
	}
	for _, key := range []int64{math.MinInt64, -1, 0, 21, 49, 51, 70, 81, 91, 99, 100, math.MaxInt64} {
		if got := impl.FoundIn(fiveKeys(), key); got != 0 {
			t.Errorf("%d, which is not there, is at %d", key, got)
		}
	}
}

func TestGreatestAndLeastKeys(t *testing.T) {
	isTree(t, "both ends", hung(0, 99), pairsOf(0, 99), 2)
	isTree(t, "both ends", hung(99, 0), pairsOf(0, 99), 2)
	isTree(t, "one key", hung(0), pairsOf(0), 1)
}

func TestWhoHoldsAndTagsAreNoMatter(t *testing.T) {
	nodes := fiveKeys()
	for i := range nodes {
		nodes[i].Owner, nodes[i].LeftTag, nodes[i].RightTag = 6, 10000, 9
	}
	isTree(t, "held", nodes, impl.PairsIn(fiveKeys()), 3)
}

func TestNoTrees(t *testing.T) {
	for _, c := range []struct {
		name  string
		spoil func(n []impl.Node)
	}{
		{"both links of one", func(n []impl.Node) { n[3].Left = 5 }},
		{"links of two, to a leaf", func(n []impl.Node) { n[2].Right = 4 }},
		{"links of two, to one with kids", func(n []impl.Node) { n[2].Right = 3 }},
		{"links of two, between their keys", func(n []impl.Node) { n[4].Right, n[4].Key, n[5].Left, n[6].Key, n[6].Gone = 6, 60, 6, 85, false }},
		{"back to itself at the left", func(n []impl.Node) { n[2].Left = 2 }},
		{"back to itself at the right", func(n []impl.Node) { n[5].Right = 5 }},
		{"back to itself twice", func(n []impl.Node) { n[1].Left, n[1].Right = 1, 1 }},
		{"back to the one above", func(n []impl.Node) { n[2].Left = 1 }},
		{"back to the one above at the right", func(n []impl.Node) { n[5].Right = 3 }},
		{"back to the first one", func(n []impl.Node) { n[4].Right = 1 }},
		{"gone, the first one", func(n []impl.Node) { n[1].Gone = true }},
		{"gone, in the middle", func(n []impl.Node) { n[3].Gone = true }},
		{"gone, the last one", func(n []impl.Node) { n[5].Gone = true }},
		{"gone, hung", func(n []impl.Node) { n[5].Right, n[6].Key, n[6].Left, n[6].Right = 6, 99, 0, 0 }},
		{"alike, at the left", func(n []impl.Node) { n[2].Key = 50 }},
		{"alike, at the right", func(n []impl.Node) { n[3].Key, n[4].Key = 50, 50 }},
		{"alike, further down", func(n []impl.Node) { n[4].Key = 50 }},
		{"alike, further down at the left", func(n []impl.Node) { n[2].Right, n[6] = 6, impl.Node{Key: 50} }},
		{"alike, on two sides", func(n []impl.Node) { n[2].Key = 60 }},
		{"wrong side of the one above, left", func(n []impl.Node) { n[2].Key = 51 }},
		{"wrong side of the one above, right", func(n []impl.Node) { n[5].Key = 79 }},
		{"wrong side of the first one, too small", func(n []impl.Node) { n[4].Key = 49 }},
		{"wrong side of the first one, too great", func(n []impl.Node) { n[2].Right, n[6] = 6, impl.Node{Key: 51} }},
		{"wrong side of one in the middle", func(n []impl.Node) { n[4].Right, n[6] = 6, impl.Node{Key: 80} }},
	} {
		nodes := fiveKeys()
		c.spoil(nodes)
		isNoTree(t, c.name, nodes)
	}
}

func TestNodesThatAreNotRightAreNoTree(t *testing.T) {
	isNoTree(t, "nil", nil)
	isNoTree(t, "empty", []impl.Node{})
	isNoTree(t, "no root", []impl.Node{{Key: 50}})
	isNoTree(t, "too many", manyNodes(31))
	for _, number := range []int64{math.MinInt64, -2, 1000, 10001, math.MaxInt64} {
		for i, field := range []func(n *impl.Node) *int64{
			func(n *impl.Node) *int64 { return &n.Key },
			func(n *impl.Node) *int64 { return &n.Value },
			func(n *impl.Node) *int64 { return &n.Left },
			func(n *impl.Node) *int64 { return &n.Right },
			func(n *impl.Node) *int64 { return &n.Owner },
		} {
			for at := range fiveKeys() {
				nodes := fiveKeys()
				*field(&nodes[at]) = number
				isNoTree(t, "field "+string(rune('0'+i)), nodes)
			}
		}
	}
	nodes := fiveKeys()
	nodes[6].Left = 7
	isNoTree(t, "a link past the end where no walk comes", nodes)
	nodes = fiveKeys()
	nodes[0].Gone = true
	isNoTree(t, "a root that is gone", nodes)
}

func TestWhatNoWalkComesTo(t *testing.T) {
	nodes := fiveKeys()
	nodes[3].Left = 0
	nodes[4] = impl.Node{Key: 50, Left: 4, Right: 1, Gone: true}
	nodes[6] = impl.Node{Key: 20, Left: 4, Right: 4}
	isTree(t, "cut", nodes, []impl.Pair{{Key: 20, Value: 200}, {Key: 50, Value: 500}, {Key: 80, Value: 800}, {Key: 90, Value: 900}}, 3)
	nodes[0].Right = 0
	isTree(t, "all cut", nodes, nil, 0)
}

// deepKeys is as many keys as there is room for, in three orders in which each is hung below the one before.
func deepKeys() (rising, falling, inward []int64) {
	for i := int64(0); i < 29; i++ {
		rising = append(rising, 3*i)
		falling = append(falling, 99-3*i)
		inward = append(inward, i/2)
		if i%2 == 1 {
			inward[i] = 99 - i/2
		}
	}
	return rising, falling, inward
}

// The greatest number of nodes is 30: the root and 29 more.
func TestDeepestAndBroadest(t *testing.T) {
	rising, falling, inward := deepKeys()
	isTree(t, "rising", hung(rising...), pairsOf(rising...), 29)
	isTree(t, "falling", hung(falling...), pairsOf(falling...), 29)
	isTree(t, "inward", hung(inward...), pairsOf(inward...), 29)
	var broad []int64
	for step := int64(32); step > 1; step /= 2 {
		for key := step / 2; key < 30; key += step {
			broad = append(broad, key)
		}
	}
	isTree(t, "broad", hung(broad...), pairsOf(broad...), 5)
	deep := hung(rising...)
	deep[29].Right = 1
	isNoTree(t, "the last one back to the first", deep)
	deep[29].Right, deep[29].Gone = 0, true
	isNoTree(t, "the last one gone", deep)
}

// Each node has the next one at both sides: who went every way down would walk 2^28 of them.
func TestManyWaysToOneNode(t *testing.T) {
	nodes := manyNodes(30)
	for i := range nodes {
		nodes[i].Right = int64(i+1) % 30
		if i > 0 {
			nodes[i].Key, nodes[i].Left = int64(i), nodes[i].Right
		}
	}
	isNoTree(t, "many ways", nodes)
}

func TestTreesByChance(t *testing.T) {
	chance := rand.New(rand.NewSource(2))
	for range 300 {
		var keys []int64
		for _, key := range chance.Perm(100)[:chance.Intn(30)] {
			keys = append(keys, int64(key))
		}
		nodes := hung(keys...)
		isTree(t, "by chance", nodes, pairsOf(keys...), deepest(nodes, nodes[0].Right))
	}
}

func deepest(nodes []impl.Node, at int64) int64 {
	if at == 0 {
		return 0
	}
	return 1 + max(deepest(nodes, nodes[at].Left), deepest(nodes, nodes[at].Right))
}

// turn is a node on a way down, and the side at which the way goes on.
type turn struct{ at, side int64 }

// fits asks of each node that is come to, by each way, just what the document says; what it comes to it writes into pairs.
func fits(nodes []impl.Node, at int64, above []turn, come map[int64]impl.Pair) bool {
	if at == 0 {
		return true
	}
	n := nodes[at]
	if _, twice := come[at]; twice || n.Gone {
		return false
	}
	come[at] = impl.Pair{Key: n.Key, Value: n.Value}
	for _, a := range above {
		if key := nodes[a.at].Key; a.side == 0 && n.Key >= key || a.side == 1 && n.Key <= key {
			return false
		}
	}
	left, right := append(slices.Clone(above), turn{at, 0}), append(slices.Clone(above), turn{at, 1})
	return fits(nodes, n.Left, left, come) && fits(nodes, n.Right, right, come)
}

func checkByWords(t *testing.T, nodes []impl.Node) {
	come := map[int64]impl.Pair{}
	if !fits(nodes, nodes[0].Right, nil, come) {
		if impl.TreeOk(nodes) || len(impl.PairsIn(nodes)) != 0 || impl.DepthOf(nodes) != -1 || impl.FoundIn(nodes, nodes[1].Key) != 0 {
			t.Fatalf("no tree, but answered as one: %+v", nodes)
		}
		return
	}
	var pairs []impl.Pair
	for _, p := range come {
		pairs = append(pairs, p)
	}
	slices.SortFunc(pairs, func(a, b impl.Pair) int { return cmp.Compare(a.Key, b.Key) })
	if !impl.TreeOk(nodes) || !slices.Equal(impl.PairsIn(nodes), pairs) || impl.DepthOf(nodes) != deepest(nodes, nodes[0].Right) {
		t.Fatalf("%+v: %v, not %v", nodes, impl.PairsIn(nodes), pairs)
	}
	for at, p := range come {
		if impl.FoundIn(nodes, p.Key) != at {
			t.Fatalf("%+v: %d is at %d", nodes, p.Key, impl.FoundIn(nodes, p.Key))
		}
	}
}

// fill tries every node of keys 1 to 3, with all links, from at on; where gone is, those that are Gone, too.
func fill(nodes []impl.Node, at int, gone bool, check func()) {
	if at == len(nodes) {
		check()
		return
	}
	count := int64(len(nodes))
	for i := range 3 * count * count {
		nodes[at] = impl.Node{Key: i%3 + 1, Value: int64(at), Left: i / 3 % count, Right: i / 3 / count}
		fill(nodes, at+1, gone, check)
		if gone {
			nodes[at].Gone = true
			fill(nodes, at+1, gone, check)
		}
	}
}

func TestAllSmallLists(t *testing.T) {
	for _, c := range []struct {
		count int
		gone  bool
	}{{2, true}, {3, true}, {4, false}} {
		nodes := make([]impl.Node, c.count)
		for first := range c.count {
			nodes[0] = impl.Node{Key: -1, Right: int64(first)}
			fill(nodes, 1, c.gone, func() { checkByWords(t, nodes) })
		}
	}
}

func TestPairsAreNewMemory(t *testing.T) {
	nodes := fiveKeys()
	first := impl.PairsIn(nodes)
	want := slices.Clone(first)
	second := impl.PairsIn(nodes)
	for i := range second {
		second[i] = impl.Pair{}
	}
	if !slices.Equal(first, want) || !slices.Equal(nodes, fiveKeys()) || !slices.Equal(impl.PairsIn(nodes), want) {
		t.Errorf("pairs share memory: %v", first)
	}
}

func TestTreesLeaveTheirArgument(t *testing.T) {
	broken := fiveKeys()
	broken[4].Right = 1
	for _, nodes := range [][]impl.Node{nil, impl.Roots(), fiveKeys(), broken, manyNodes(31)} {
		leavesNodes(t, nodes, func(nodes []impl.Node) {
			impl.TreeOk(nodes)
			impl.PairsIn(nodes)
			impl.FoundIn(nodes, 60)
			impl.DepthOf(nodes)
		})
	}
}
