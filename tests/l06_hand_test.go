package tests

import (
	"math"
	"math/rand"
	"slices"
	"testing"

	"loop.example/g00783/impl"
)

// A handLimit is one number of a Hand, and from where to where it is right.
type handLimit struct {
	name        string
	least, most int64
	field       func(h *impl.Hand) *int64
}

func (l handLimit) has(number int64) bool { return l.least <= number && number <= l.most }

// around is the numbers at both ends and next to them, the extremes, and what would be right if it were cut to fewer bits.
func (l handLimit) around() []int64 {
	return []int64{
		l.least - 1, l.least, l.least + 1, l.most - 1, l.most, l.most + 1,
		math.MinInt64, math.MinInt64 + 1, math.MaxInt64 - 1, math.MaxInt64,
		1<<8 + l.most, 1<<16 + l.most, 1<<32 + l.most, -1<<32 + l.most, -1<<32 + l.least,
	}
}

// handLimits is of every number of a Hand, At ahead; the Call is none.
func handLimits() []handLimit {
	return []handLimit{
		{"At", 0, 26, func(h *impl.Hand) *int64 { return &h.At }},
		{"Prev", 0, 29, func(h *impl.Hand) *int64 { return &h.Prev }},
		{"Cur", 0, 29, func(h *impl.Hand) *int64 { return &h.Cur }},
		{"Side", 0, 1, func(h *impl.Hand) *int64 { return &h.Side }},
		{"Tag", 0, 10000, func(h *impl.Hand) *int64 { return &h.Tag }},
		{"Up", 0, 29, func(h *impl.Hand) *int64 { return &h.Up }},
		{"Next", 0, 29, func(h *impl.Hand) *int64 { return &h.Next }},
		{"New", 0, 29, func(h *impl.Hand) *int64 { return &h.New }},
		{"Index", 0, 6, func(h *impl.Hand) *int64 { return &h.Index }},
		{"Seen", -1, 100000, func(h *impl.Hand) *int64 { return &h.Seen }},
		{"Begin", 0, 20000, func(h *impl.Hand) *int64 { return &h.Begin }},
		{"Reply", 0, 3, func(h *impl.Hand) *int64 { return &h.Reply }},
		{"Out", 0, 999, func(h *impl.Hand) *int64 { return &h.Out }},
	}
}

// handByWords asks just what the document says.
func handByWords(h impl.Hand) bool {
	for _, l := range handLimits() {
		if !l.has(*l.field(&h)) {
			return false
		}
	}
	if h.At == 0 && h.Call.Code == 0 && h.Call.Key == 0 && h.Call.Value == 0 {
		return true
	}
	return callByWords(h.Call)
}

var someAdd = impl.Call{Code: 2, Key: 7, Value: 70}

// lowHand and highHand are at work and have each other number at its least, or at its greatest.
func lowHand() impl.Hand { return impl.Hand{At: 1, Call: impl.Call{Code: 1}, Seen: -1} }

func highHand() impl.Hand {
	return impl.Hand{
		At: 26, Call: impl.Call{Code: 2, Key: 99, Value: 999}, Prev: 29, Cur: 29, Side: 1, Tag: 10000, Up: 29, Next: 29, New: 29,
		Index: 6, Seen: 100000, Again: true, Begin: 20000, Reply: 3, Out: 999,
	}
}

// fullHand is right, and each of its fields has a value of its own.
func fullHand(at int64) impl.Hand {
	return impl.Hand{
		At: at, Call: someAdd, Prev: 11, Cur: 12, Side: 1, Tag: 13, Up: 14, Next: 15, New: 16,
		Index: 5, Seen: 17, Again: true, Begin: 18, Reply: 3, Out: 19,
	}
}

// rightHands is at rest and at work, with a zero Call where it may be.
func rightHands() []impl.Hand {
	hands := []impl.Hand{{}, impl.Resting(0, 0), impl.Resting(1, 5), impl.Resting(3, 999), lowHand(), highHand()}
	for at := int64(0); at <= 26; at++ {
		hands = append(hands, fullHand(at))
	}
	rested := fullHand(0)
	rested.Call = impl.Call{}
	return append(hands, rested)
}

// wrongHands is wrong in one number each, or in the Call.
func wrongHands() []impl.Hand {
	var hands []impl.Hand
	for _, base := range []impl.Hand{{}, lowHand(), highHand(), fullHand(0), fullHand(5)} {
		for _, l := range handLimits() {
			for _, number := range l.around() {
				if h := base; !l.has(number) {
					*l.field(&h) = number
					hands = append(hands, h)
				}
			}
		}
		for _, c := range wrongCalls() {
			if h := base; h.At != 0 || c != (impl.Call{}) {
				h.Call = c
				hands = append(hands, h)
			}
		}
	}
	return hands
}

func checkHand(t *testing.T, h impl.Hand, want bool) {
	t.Helper()
	if impl.HandOk(h) != want {
		t.Errorf("%+v: not %v", h, want)
	}
}

func checkCalled(t *testing.T, h impl.Hand, c impl.Call, want impl.Hand, wantCode int64) {
	t.Helper()
	if got, code := impl.Called(h, c); got != want || code != wantCode {
		t.Errorf("%+v called with %+v: %+v %d, not %+v %d", h, c, got, code, want, wantCode)
	}
}

func TestHandConstants(t *testing.T) {
	got := []int64{
		impl.AtRest, impl.AtEnter, impl.AtDown, impl.AtTag, impl.AtExit, impl.AtLock, impl.AtCheck, impl.AtMake, impl.AtHang,
		impl.AtLockCur, impl.AtCheckCut, impl.AtMark, impl.AtLift, impl.AtBump, impl.AtNext, impl.AtLeft, impl.AtLockUp, impl.AtLockNext,
		impl.AtCheckUp, impl.AtCopy, impl.AtOut, impl.AtIn, impl.AtSync, impl.AtTake, impl.AtJoin, impl.AtJoinTag, impl.AtFree,
	}
	for at, number := range got {
		if number != int64(at) || len(got) != 27 {
			t.Errorf("the place %d is %d", at, number)
		}
	}
	if got := []int64{impl.CdOk, impl.CdBusy, impl.CdUnfit, impl.CdWrong, impl.MaxNow}; !slices.Equal(got, []int64{0, 1, 2, 3, 20000}) {
		t.Errorf("constants are %v", got)
	}
}

func TestRightHands(t *testing.T) {
	for _, h := range rightHands() {
		checkHand(t, h, true)
	}
}

func TestWrongHands(t *testing.T) {
	for _, h := range wrongHands() {
		checkHand(t, h, false)
	}
}

func TestHandLimits(t *testing.T) {
	for _, base := range rightHands() {
		for _, l := range handLimits()[1:] {
			for _, number := range l.around() {
				h := base
				*l.field(&h) = number
				checkHand(t, h, l.has(number))
			}
		}
	}
}

// Two numbers at once: what is right in one place does not make up for what is not in another.
func TestTwoNumbersOfAHand(t *testing.T) {
	limits := handLimits()
	for i, one := range limits {
		for _, other := range limits[i+1:] {
			for _, first := range []int64{one.least - 1, one.least, one.most, one.most + 1} {
				for _, second := range []int64{other.least - 1, other.least, other.most, other.most + 1} {
					h := fullHand(3)
					*one.field(&h), *other.field(&h) = first, second
					checkHand(t, h, one.has(first) && other.has(second))
				}
			}
		}
	}
}

func TestEachPlaceWithEachCall(t *testing.T) {
	calls := append(rightCalls(), wrongCalls()...)
	for _, at := range append(handLimits()[0].around(), 2, 3, 4, 5, 8, 9, 13, 14, 21, 22, 23, 24) {
		for _, c := range calls {
			for _, again := range []bool{false, true} {
				h := impl.Hand{At: at, Call: c, Again: again}
				checkHand(t, h, handByWords(h))
			}
		}
	}
}

func TestAZeroCallIsForRestAlone(t *testing.T) {
	for at := int64(-1); at <= 27; at++ {
		h := fullHand(at)
		h.Call = impl.Call{}
		checkHand(t, h, at == 0)
	}
}

// A Call that lacks its Code only is no zero one, even at rest.
func TestAlmostAZeroCall(t *testing.T) {
	for _, c := range []impl.Call{{Key: 1}, {Value: 1}, {Key: 99}, {Value: 999}, {Key: -1}, {Value: -1}, {Key: 7, Value: 70}} {
		for at := int64(0); at <= 26; at++ {
			checkHand(t, impl.Hand{At: at, Call: c}, false)
		}
	}
}

func TestHandsByChance(t *testing.T) {
	chance := rand.New(rand.NewSource(6))
	calls := append(rightCalls(), wrongCalls()[:9]...)
	right := 0
	for range 20000 {
		h := impl.Hand{Call: calls[chance.Intn(len(calls))], Again: chance.Intn(2) == 0}
		for _, l := range handLimits() {
			*l.field(&h) = l.least + chance.Int63n(l.most-l.least+1)
			if chance.Intn(30) == 0 {
				around := l.around()
				*l.field(&h) = around[chance.Intn(len(around))]
			}
		}
		checkHand(t, h, handByWords(h))
		if handByWords(h) {
			right++
		}
	}
	if right < 5000 || right > 15000 {
		t.Errorf("%d of 20000 are right: too few of one kind", right)
	}
}

// Whatever is told with it, and though it may be none that can be: all else is nothing.
func TestWhoRestsHasNothingInHand(t *testing.T) {
	numbers := append(aroundZero(), 5, 998, 999, 1000)
	for _, reply := range numbers {
		for _, out := range numbers {
			h := impl.Resting(reply, out)
			if h.Reply != reply || h.Out != out {
				t.Errorf("resting with %d %d: %+v", reply, out, h)
			}
			h.Reply, h.Out = 0, 0
			if h != (impl.Hand{Seen: -1}) {
				t.Errorf("resting with %d %d, there is something in hand: %+v", reply, out, h)
			}
		}
	}
}

func TestRestingIsRightWithARightReplyAndOut(t *testing.T) {
	for reply := int64(-2); reply <= 5; reply++ {
		for _, out := range []int64{math.MinInt64, -1, 0, 1, 998, 999, 1000, math.MaxInt64} {
			checkHand(t, impl.Resting(reply, out), reply >= 0 && reply <= 3 && out >= 0 && out <= 999)
		}
	}
}

// Of what a hand at rest had before, nothing is left, be it ever so full.
func TestCalledFromRestBeginsWithNothing(t *testing.T) {
	rested := fullHand(0)
	rested.Call = impl.Call{}
	high := highHand()
	high.At = 0
	for _, h := range []impl.Hand{{}, impl.Resting(0, 0), impl.Resting(1, 5), impl.Resting(3, 999), fullHand(0), rested, high} {
		for _, c := range rightCalls() {
			checkCalled(t, h, c, impl.Hand{At: 1, Call: c, Seen: -1}, 0)
		}
	}
}

func TestWhatIsCalledIsARightHandAtWork(t *testing.T) {
	for _, c := range rightCalls() {
		h, code := impl.Called(impl.Resting(2, 0), c)
		if code != impl.CdOk || !impl.HandOk(h) || h.At != impl.AtEnter || h.Call != c {
			t.Errorf("called with %+v: %+v %d", c, h, code)
		}
		checkCalled(t, h, someAdd, h, 1)
		checkCalled(t, h, impl.Call{}, h, 1)
	}
}

// Who is at work is busy, whether the call is right or not: CdBusy is named ahead of CdUnfit.
func TestCalledAtWork(t *testing.T) {
	calls := append(rightCalls(), wrongCalls()...)
	for at := int64(1); at <= 26; at++ {
		for _, c := range calls {
			checkCalled(t, fullHand(at), c, fullHand(at), 1)
		}
	}
	for _, c := range calls {
		checkCalled(t, lowHand(), c, lowHand(), 1)
		checkCalled(t, highHand(), c, highHand(), 1)
	}
}

func TestCalledWithACallThatIsNotRight(t *testing.T) {
	for _, h := range rightHands() {
		for _, c := range wrongCalls() {
			if h.At == 0 {
				checkCalled(t, h, c, h, 2)
			}
		}
	}
}

// A hand that is not right is refused ahead of all else, at rest and at work, whatever the call.
func TestCalledOfAHandThatIsNotRight(t *testing.T) {
	calls := []impl.Call{someAdd, {Code: 1}, {Code: 3, Key: 99}, {}, {Code: 4}, {Code: 1, Value: 1}, {Code: 2, Key: math.MinInt64, Value: math.MaxInt64}}
	for _, h := range wrongHands() {
		for _, c := range calls {
			checkCalled(t, h, c, impl.Hand{}, 3)
		}
	}
}
