package impl

const MaxKey = 99
const MaxValue = 999
const MaxTag = 10000
const MaxNodes = 30
const MaxTasks = 6

const (
	SdLeft = iota
	SdRight
)

// rootKey is less than every key, so that the whole tree hangs at the root's right.
const rootKey = -1

type Node struct {
	Key      int64
	Value    int64
	Left     int64
	Right    int64
	Owner    int64
	Gone     bool
	LeftTag  int64
	RightTag int64
}

func NodesOk(nodes []Node) bool {
	count := int64(len(nodes))
	if !within(count, 1, MaxNodes) || !nodes[0].isRoot() {
		return false
	}
	for _, n := range nodes[1:] {
		if !n.hasEntry() {
			return false
		}
	}
	for _, n := range nodes {
		if !n.isLinked(count) {
			return false
		}
	}
	return true
}

func Roots() []Node { return []Node{{Key: rootKey}} }

func KidOf(n Node, side int64) int64 { return n.kid(side) }

func WithKid(n Node, side int64, kid int64) Node {
	switch side {
	case SdLeft:
		n.Left = kid
	case SdRight:
		n.Right = kid
	}
	return n
}

func TagAt(n Node, side int64) int64 { return n.tag(side) }

// A tag at its limit is counted on all the same: refusing the node then is left to NodesOk.
func WithTag(n Node, side int64) Node {
	switch side {
	case SdLeft:
		n.LeftTag++
	case SdRight:
		n.RightTag++
	}
	return n
}

func SideOf(n Node, key int64) int64 {
	if key < n.Key {
		return SdLeft
	}
	return SdRight
}

func (n Node) isRoot() bool {
	return n.Key == rootKey && n.Value == 0 && n.Left == 0 && !n.Gone
}

func (n Node) hasEntry() bool {
	return within(n.Key, 0, MaxKey) && within(n.Value, 0, MaxValue)
}

func (n Node) isLinked(count int64) bool {
	return bothWithin(n.kid, count-1) && bothWithin(n.tag, MaxTag) && within(n.Owner, 0, MaxTasks)
}

func (n Node) kid(side int64) int64 { return atSide(side, n.Left, n.Right) }

func (n Node) tag(side int64) int64 { return atSide(side, n.LeftTag, n.RightTag) }

func atSide(side, left, right int64) int64 {
	switch side {
	case SdLeft:
		return left
	case SdRight:
		return right
	}
	return 0
}

func bothWithin(at func(side int64) int64, most int64) bool {
	return within(at(SdLeft), 0, most) && within(at(SdRight), 0, most)
}

func within(number, least, most int64) bool {
	return least <= number && number <= most
}
