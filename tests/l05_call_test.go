package tests

import (
	"math"
	"slices"
	"testing"

	"loop.example/g00783/impl"
)

// aroundZero is the extremes, all near what is right of a code and of a reply, and what would be that if it were cut to fewer bits.
func aroundZero() []int64 {
	numbers := []int64{math.MinInt64, math.MinInt64 + 1, math.MinInt64 + 2, math.MinInt64 + 3, math.MaxInt64 - 1, math.MaxInt64}
	for number := int64(-4); number <= 8; number++ {
		numbers = append(numbers, number)
	}
	for _, bits := range []int{8, 16, 32} {
		for number := int64(1); number <= 3; number++ {
			numbers = append(numbers, 1<<bits+number, -1<<bits+number)
		}
	}
	return numbers
}

var someKeys = []int64{math.MinInt64, -100, -2, -1, 0, 1, 50, 98, 99, 100, 101, 999, 1<<32 + 5, math.MaxInt64}

var someValues = []int64{math.MinInt64, -999, -2, -1, 0, 1, 2, 99, 100, 998, 999, 1000, 1001, 1 << 32, math.MaxInt64}

// rightCalls is of each code those at the ends of what is right, and one in the middle.
func rightCalls() []impl.Call {
	var calls []impl.Call
	for _, key := range []int64{0, 1, 50, 98, 99} {
		calls = append(calls, impl.Call{Code: 1, Key: key}, impl.Call{Code: 3, Key: key})
		for _, value := range []int64{0, 1, 500, 998, 999} {
			calls = append(calls, impl.Call{Code: 2, Key: key, Value: value})
		}
	}
	return calls
}

// wrongCalls is wrong in one field each, which may be the Code, the Key or the Value.
func wrongCalls() []impl.Call {
	calls := []impl.Call{{}}
	for _, code := range aroundZero() {
		if code < 1 || code > 3 {
			calls = append(calls, impl.Call{Code: code, Key: 5}, impl.Call{Code: code}, impl.Call{Code: code, Key: 99, Value: 999})
		}
	}
	for code := int64(1); code <= 3; code++ {
		for _, key := range []int64{math.MinInt64, -2, -1, 100, 101, 1<<32 + 5, math.MaxInt64} {
			calls = append(calls, impl.Call{Code: code, Key: key})
		}
		for _, value := range []int64{math.MinInt64, -2, -1, 1000, 1001, 1 << 32, math.MaxInt64} {
			calls = append(calls, impl.Call{Code: code, Key: 5, Value: value})
		}
		if code != 2 {
			for _, value := range []int64{1, 2, 500, 999} {
				calls = append(calls, impl.Call{Code: code, Key: 5, Value: value})
			}
		}
	}
	return calls
}

// callByWords and replyByWords ask just what the document says.
func callByWords(c impl.Call) bool {
	if c.Key < 0 || c.Key > 99 {
		return false
	}
	switch c.Code {
	case 1, 3:
		return c.Value == 0
	case 2:
		return c.Value >= 0 && c.Value <= 999
	}
	return false
}

func replyByWords(c impl.Call, reply int64) bool {
	return callByWords(c) && (reply == 1 || reply == 2 || reply == 3 && c.Code != 1)
}

func TestCallConstants(t *testing.T) {
	got := []int64{impl.OpGet, impl.OpAdd, impl.OpCut, impl.RpYes, impl.RpNo, impl.RpFull}
	if want := []int64{1, 2, 3, 1, 2, 3}; !slices.Equal(got, want) {
		t.Fatalf("constants are %v, not %v", got, want)
	}
}

func TestRightCalls(t *testing.T) {
	for _, c := range rightCalls() {
		if !impl.CallOk(c) {
			t.Errorf("%+v is refused", c)
		}
	}
}

func TestWrongCalls(t *testing.T) {
	for _, c := range wrongCalls() {
		if impl.CallOk(c) {
			t.Errorf("%+v is right", c)
		}
	}
}

func TestRepliesOfEachCode(t *testing.T) {
	may := map[int64][]int64{1: {1, 2}, 2: {1, 2, 3}, 3: {1, 2, 3}}
	for _, c := range rightCalls() {
		for _, reply := range aroundZero() {
			if want := slices.Contains(may[c.Code], reply); impl.ReplyOk(c, reply) != want {
				t.Errorf("%d to %+v: not %v", reply, c, want)
			}
		}
	}
}

func TestNothingIsRepliedToAWrongCall(t *testing.T) {
	for _, c := range wrongCalls() {
		for _, reply := range aroundZero() {
			if impl.ReplyOk(c, reply) {
				t.Errorf("%d to %+v, which is wrong, is right", reply, c)
			}
		}
	}
}

// A value is of OpAdd alone: no other call is right with any but 0, whatever its key.
func TestOnlyOpAddHasAValue(t *testing.T) {
	for value := int64(-1); value <= 1000; value++ {
		for key := int64(-1); key <= 100; key++ {
			for _, code := range []int64{impl.OpGet, impl.OpAdd, impl.OpCut} {
				c := impl.Call{Code: code, Key: key, Value: value}
				if want := callByWords(c); impl.CallOk(c) != want {
					t.Fatalf("%+v: not %v", c, want)
				}
			}
		}
	}
}

// Each code with each key, value and reply, right or not, together.
func TestCallsByWords(t *testing.T) {
	for _, code := range aroundZero() {
		for _, key := range someKeys {
			for _, value := range someValues {
				c := impl.Call{Code: code, Key: key, Value: value}
				if want := callByWords(c); impl.CallOk(c) != want {
					t.Errorf("%+v: not %v", c, want)
				}
				for _, reply := range aroundZero() {
					if want := replyByWords(c, reply); impl.ReplyOk(c, reply) != want {
						t.Errorf("%d to %+v: not %v", reply, c, want)
					}
				}
			}
		}
	}
}
