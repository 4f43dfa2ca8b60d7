package tests

import (
	"math"
	"slices"
	"testing"

	"loop.example/g00783/impl"
)

// The limits are written as numbers here, so that a wrong constant is found.

var strangeSides = []int64{math.MinInt64, -2, -1, 2, 3, math.MaxInt64}

var strangeNumbers = []int64{math.MinInt64, -1, 0, 1, 7, 29, 30, 10000, 10001, math.MaxInt64}

// full is a node of which each field has a value of its own.
func full() impl.Node {
	return impl.Node{Key: 40, Value: 41, Left: 2, Right: 3, Owner: 4, Gone: true, LeftTag: 5, RightTag: 6}
}

// threeNodes is the root with 50 and, at its left, 20.
func threeNodes() []impl.Node {
	return []impl.Node{
		{Key: -1, Right: 1},
		{Key: 50, Value: 500, Left: 2},
		{Key: 20, Value: 200},
	}
}

func manyNodes(count int) []impl.Node {
	nodes := make([]impl.Node, count)
	nodes[0] = impl.Node{Key: -1}
	return nodes
}

func TestNodeConstants(t *testing.T) {
	got := []int64{impl.MaxKey, impl.MaxValue, impl.MaxTag, impl.MaxNodes, impl.MaxTasks, impl.SdLeft, impl.SdRight}
	if want := []int64{99, 999, 10000, 30, 6, 0, 1}; !slices.Equal(got, want) {
		t.Fatalf("constants are %v, not %v", got, want)
	}
}

func TestWithKidHangsAtItsSideOnly(t *testing.T) {
	for _, n := range []impl.Node{full(), {}, {Key: -1, Right: 1}, {Left: math.MinInt64, Right: math.MaxInt64}} {
		for _, kid := range strangeNumbers {
			left, right := n, n
			left.Left, right.Right = kid, kid
			if got := impl.WithKid(n, impl.SdLeft, kid); got != left {
				t.Errorf("%d at the left of %+v: %+v", kid, n, got)
			}
			if got := impl.WithKid(n, impl.SdRight, kid); got != right {
				t.Errorf("%d at the right of %+v: %+v", kid, n, got)
			}
		}
	}
}

func TestKidOfTellsWhatWasHung(t *testing.T) {
	for _, kid := range strangeNumbers {
		left, right := impl.WithKid(full(), impl.SdLeft, kid), impl.WithKid(full(), impl.SdRight, kid)
		if impl.KidOf(left, impl.SdLeft) != kid || impl.KidOf(left, impl.SdRight) != 3 {
			t.Errorf("hung %d at the left: %+v", kid, left)
		}
		if impl.KidOf(right, impl.SdRight) != kid || impl.KidOf(right, impl.SdLeft) != 2 {
			t.Errorf("hung %d at the right: %+v", kid, right)
		}
	}
}

func TestKidsTakeTurns(t *testing.T) {
	n := impl.WithKid(impl.WithKid(full(), impl.SdLeft, 8), impl.SdRight, 9)
	n = impl.WithKid(n, impl.SdLeft, 0)
	if impl.KidOf(n, impl.SdLeft) != 0 || impl.KidOf(n, impl.SdRight) != 9 {
		t.Fatalf("after three were hung: %+v", n)
	}
}

func TestNoSuchSide(t *testing.T) {
	for _, side := range strangeSides {
		if got := impl.KidOf(full(), side); got != 0 {
			t.Errorf("kid at side %d: %d", side, got)
		}
		if got := impl.TagAt(full(), side); got != 0 {
			t.Errorf("tag at side %d: %d", side, got)
		}
		if got := impl.WithTag(full(), side); got != full() {
			t.Errorf("one more at side %d: %+v", side, got)
		}
		for _, kid := range strangeNumbers {
			if got := impl.WithKid(full(), side, kid); got != full() {
				t.Errorf("%d hung at side %d: %+v", kid, side, got)
			}
		}
	}
}

func TestTags(t *testing.T) {
	for _, tag := range []int64{math.MinInt64, -1, 0, 1, 9999, 10000, math.MaxInt64 - 1} {
		n := full()
		n.LeftTag, n.RightTag = tag, 77
		more := n
		more.LeftTag = tag + 1
		if impl.TagAt(n, impl.SdLeft) != tag || impl.TagAt(n, impl.SdRight) != 77 || impl.WithTag(n, impl.SdLeft) != more {
			t.Errorf("tag %d at the left: %+v", tag, impl.WithTag(n, impl.SdLeft))
		}
		n.LeftTag, n.RightTag = 77, tag
		more = n
		more.RightTag = tag + 1
		if impl.TagAt(n, impl.SdRight) != tag || impl.TagAt(n, impl.SdLeft) != 77 || impl.WithTag(n, impl.SdRight) != more {
			t.Errorf("tag %d at the right: %+v", tag, impl.WithTag(n, impl.SdRight))
		}
	}
}

func TestTagPastTheGreatestNumber(t *testing.T) {
	n := impl.Node{Key: 3, LeftTag: math.MaxInt64, RightTag: math.MaxInt64}
	left, right := n, n
	left.LeftTag, right.RightTag = math.MinInt64, math.MinInt64
	if impl.WithTag(n, impl.SdLeft) != left || impl.WithTag(n, impl.SdRight) != right {
		t.Fatalf("%+v %+v", impl.WithTag(n, impl.SdLeft), impl.WithTag(n, impl.SdRight))
	}
}

func TestSideOf(t *testing.T) {
	for _, c := range []struct{ own, key, side int64 }{
		{50, 49, 0}, {50, 50, 1}, {50, 51, 1},
		{0, -1, 0}, {0, 0, 1}, {99, 98, 0}, {99, 99, 1},
		{-1, -2, 0}, {-1, -1, 1}, {-1, 0, 1}, {-1, 99, 1},
		{math.MaxInt64, math.MinInt64, 0}, {math.MinInt64, math.MaxInt64, 1},
		{math.MinInt64, math.MinInt64, 1}, {math.MaxInt64, math.MaxInt64, 1},
	} {
		if got := impl.SideOf(impl.Node{Key: c.own, Left: 1, Right: 2}, c.key); got != c.side {
			t.Errorf("of %d at %d: side %d", c.key, c.own, got)
		}
	}
}

func TestRootsAreRightAndNew(t *testing.T) {
	roots := impl.Roots()
	if len(roots) != 1 || roots[0] != (impl.Node{Key: -1}) || !impl.NodesOk(roots) {
		t.Fatalf("roots: %+v", roots)
	}
	roots[0].Key = 7
	if again := impl.Roots(); again[0] != (impl.Node{Key: -1}) {
		t.Fatalf("roots share memory: %+v", again)
	}
}

func TestNodesOkCounts(t *testing.T) {
	if impl.NodesOk(nil) || impl.NodesOk([]impl.Node{}) {
		t.Error("no nodes are right")
	}
	for _, count := range []int{1, 2, 29, 30} {
		if !impl.NodesOk(manyNodes(count)) {
			t.Errorf("%d nodes are not right", count)
		}
	}
	for _, count := range []int{31, 32, 100} {
		if impl.NodesOk(manyNodes(count)) {
			t.Errorf("%d nodes are right", count)
		}
	}
}

// A limit is one field of a node of threeNodes, and from where to where it is right.
type limit struct {
	name        string
	least, most int64
	field       func(n *impl.Node) *int64
}

func checkLimits(t *testing.T, at int, limits []limit) {
	for _, l := range limits {
		for _, number := range []int64{math.MinInt64, l.least - 1, l.least, l.most, l.most + 1, math.MaxInt64} {
			nodes := threeNodes()
			*l.field(&nodes[at]) = number
			if want := l.least <= number && number <= l.most; impl.NodesOk(nodes) != want {
				t.Errorf("node %d with %s %d: not %v", at, l.name, number, want)
			}
		}
	}
}

func TestNodesOkLimits(t *testing.T) {
	links := []limit{
		{"Right", 0, 2, func(n *impl.Node) *int64 { return &n.Right }},
		{"Owner", 0, 6, func(n *impl.Node) *int64 { return &n.Owner }},
		{"LeftTag", 0, 10000, func(n *impl.Node) *int64 { return &n.LeftTag }},
		{"RightTag", 0, 10000, func(n *impl.Node) *int64 { return &n.RightTag }},
	}
	root := []limit{
		{"Key", -1, -1, func(n *impl.Node) *int64 { return &n.Key }},
		{"Value", 0, 0, func(n *impl.Node) *int64 { return &n.Value }},
		{"Left", 0, 0, func(n *impl.Node) *int64 { return &n.Left }},
	}
	other := []limit{
		{"Key", 0, 99, func(n *impl.Node) *int64 { return &n.Key }},
		{"Value", 0, 999, func(n *impl.Node) *int64 { return &n.Value }},
		{"Left", 0, 2, func(n *impl.Node) *int64 { return &n.Left }},
	}
	checkLimits(t, 0, append(root, links...))
	checkLimits(t, 1, append(slices.Clone(other), links...))
	checkLimits(t, 2, append(slices.Clone(other), links...))
}

func TestNodesOkGone(t *testing.T) {
	nodes := threeNodes()
	nodes[1].Gone, nodes[2].Gone = true, true
	if !impl.NodesOk(nodes) {
		t.Error("a node that is gone is refused")
	}
	nodes[0].Gone = true
	if impl.NodesOk(nodes) {
		t.Error("a root that is gone is right")
	}
}

func TestNodesOkLastOfMany(t *testing.T) {
	nodes := manyNodes(30)
	nodes[29] = impl.Node{Key: 99, Value: 999, Left: 29, Right: 29, Owner: 6, Gone: true, LeftTag: 10000, RightTag: 10000}
	if !impl.NodesOk(nodes) {
		t.Error("the last of 30, at all its limits, is refused")
	}
	nodes[29].Right = 30
	if impl.NodesOk(nodes) {
		t.Error("a link past the last of 30 is right")
	}
}

// What no walk comes to, and what would be walked in a circle, is none of NodesOk's business.
func TestNodesOkAsksForNoTree(t *testing.T) {
	for _, nodes := range [][]impl.Node{
		{{Key: -1}, {Key: 4}},
		{{Key: -1, Right: 1}, {Key: 4, Left: 1, Right: 1}},
		{{Key: -1, Right: 1}, {Key: 4, Left: 2}, {Key: 4, Right: 1}},
	} {
		if !impl.NodesOk(nodes) {
			t.Errorf("refused: %+v", nodes)
		}
	}
}

// leaves checks that a call changes neither the list that it is given nor the spare room behind it, which is filled with mark.
func leaves[T comparable](t *testing.T, list []T, mark T, call func(list []T)) {
	t.Helper()
	given := append(make([]T, 0, len(list)+5), list...)
	spare := given[len(given):cap(given)]
	for i := range spare {
		spare[i] = mark
	}
	call(given)
	if !slices.Equal(given, list) {
		t.Errorf("the argument is changed: %+v", given)
	}
	for _, one := range spare {
		if one != mark {
			t.Errorf("the spare room is changed: %+v", spare)
		}
	}
}

func leavesNodes(t *testing.T, nodes []impl.Node, call func(nodes []impl.Node)) {
	t.Helper()
	leaves(t, nodes, full(), call)
}

func TestNodesOkLeavesItsArgument(t *testing.T) {
	leavesNodes(t, threeNodes(), func(nodes []impl.Node) { impl.NodesOk(nodes) })
}
