package tests

import (
	"math"
	"math/rand"
	"slices"
	"testing"

	"loop.example/g00783/impl"
)

var rightCounts = []int64{0, 1, 2, 3, 49999, 50000, 99998, 99999, 100000}

var wrongCounts = []int64{math.MinInt64, math.MinInt64 + 1, -100000, -2, -1, 100001, 100002, math.MaxInt64 - 1, math.MaxInt64}

// countsNotRight is one list of each kind that CountsOk refuses, and each wrong count at each place.
func countsNotRight() [][]int64 {
	lists := [][]int64{nil, {}, make([]int64, 7), {1, 1, 1, 1, 1, 1, 1}, {0, 1, 2, 3, 4, 5, 6, 7}, make([]int64, 100), {-1, -1}, {100001, -1, 3}}
	for tasks := 1; tasks <= 6; tasks++ {
		for task := range tasks {
			for _, count := range wrongCounts {
				lists = append(lists, withCount([]int64{1, 2, 3, 4, 5, 6}[:tasks], task, count))
			}
		}
	}
	return lists
}

func withCount(counts []int64, task int, count int64) []int64 {
	counts = slices.Clone(counts)
	counts[task] = count
	return counts
}

// noTaskOf is what is no task where there are so many.
func noTaskOf(tasks int) []int64 {
	there := int64(tasks)
	return append(slices.Clone(noTasks), there, there+1, -there)
}

func checkWalking(t *testing.T, counts []int64, want ...int64) {
	t.Helper()
	if got := impl.Walking(counts); !slices.Equal(got, want) {
		t.Errorf("of %v walk %v, not %v", counts, got, want)
	}
}

func checkCounted(t *testing.T, counts []int64, task int64, want []int64, wantIs bool) {
	t.Helper()
	if got, is := impl.Counted(counts, task); is != wantIs || !slices.Equal(got, want) {
		t.Errorf("%d counted of %v: %v %v, not %v %v", task, counts, got, is, want, wantIs)
	}
}

func TestMaxCount(t *testing.T) {
	if got := int64(impl.MaxCount); got != 100000 {
		t.Fatalf("MaxCount is %d", got)
	}
}

func TestCountsOkCounts(t *testing.T) {
	for tasks := 1; tasks <= 6; tasks++ {
		for task := range tasks {
			for _, count := range rightCounts {
				if counts := withCount(make([]int64, tasks), task, count); !impl.CountsOk(counts) {
					t.Errorf("%v is refused", counts)
				}
			}
		}
	}
	if !impl.CountsOk([]int64{100000, 100000, 100000, 100000, 100000, 100000}) {
		t.Error("all at their limit are refused")
	}
}

func TestCountsThatAreNotRight(t *testing.T) {
	for _, counts := range countsNotRight() {
		if impl.CountsOk(counts) {
			t.Errorf("%v are right", counts)
		}
		checkWalking(t, counts)
		for _, task := range append(noTaskOf(len(counts)), allTasks...) {
			checkCounted(t, counts, task, nil, false)
		}
	}
}

func TestWalkingTellsTheOddOnes(t *testing.T) {
	checkWalking(t, []int64{4, 7, 0, 1}, 1, 3)
	checkWalking(t, []int64{1, 3, 5, 7, 99997, 99999}, 0, 1, 2, 3, 4, 5)
	checkWalking(t, []int64{0, 2, 4, 6, 99998, 100000})
	checkWalking(t, []int64{99999, 2, 100000, 8, 0, 1}, 0, 5)
	checkWalking(t, []int64{0, 0, 0, 0, 0, 3}, 5)
	checkWalking(t, []int64{3, 0, 0, 0, 0, 0}, 0)
	for _, count := range rightCounts {
		if count%2 == 0 {
			checkWalking(t, []int64{count})
		} else {
			checkWalking(t, []int64{count}, 0)
		}
	}
}

// Each of the ways in which up to six can walk or not, at three heights of their counts.
func TestWalkingByWords(t *testing.T) {
	for tasks := 1; tasks <= 6; tasks++ {
		for ways := range 1 << tasks {
			for _, even := range []int64{0, 2, 99998} {
				counts := make([]int64, tasks)
				var want []int64
				for task := range counts {
					counts[task] = even
					if ways>>task&1 == 1 {
						counts[task] = even + 1
						want = append(want, int64(task))
					}
				}
				checkWalking(t, counts, want...)
			}
		}
	}
}

func TestCountedIsOneMoreOfThatTask(t *testing.T) {
	for tasks := 1; tasks <= 6; tasks++ {
		for task := range tasks {
			for _, count := range rightCounts {
				counts := withCount([]int64{1, 2, 3, 4, 99999, 100000}[:tasks], task, count)
				if count == 100000 {
					checkCounted(t, counts, int64(task), counts, false)
				} else {
					checkCounted(t, counts, int64(task), withCount(counts, task, count+1), true)
				}
			}
		}
	}
}

// A full count of another one is in nobody's way.
func TestCountedBesideFullCounts(t *testing.T) {
	counts := []int64{100000, 99999, 100000}
	checkCounted(t, counts, 1, []int64{100000, 100000, 100000}, true)
	for _, task := range []int64{0, 2} {
		checkCounted(t, counts, task, counts, false)
	}
}

func TestCountedOfNoSuchTask(t *testing.T) {
	for tasks := 1; tasks <= 6; tasks++ {
		for _, counts := range [][]int64{make([]int64, tasks), {1, 2, 3, 4, 5, 6}, {100000, 100000, 100000, 100000, 100000, 100000}} {
			counts = counts[:tasks]
			for _, task := range noTaskOf(tasks) {
				checkCounted(t, counts, task, counts, false)
			}
		}
	}
}

// At no count is there one who walks and can't end walking, and the others walk on meanwhile.
func TestWhoWalksEndsWalking(t *testing.T) {
	for count := int64(1); count <= 99999; count += 2 {
		for task, counts := range [][]int64{{count, 1, 0}, {1, count, 0}} {
			ended, is := impl.Counted(counts, int64(task))
			if !is || !impl.CountsOk(ended) || slices.Contains(impl.Walking(ended), int64(task)) {
				t.Fatalf("%d can't end walking: %v of %v", task, ended, counts)
			}
			checkWalking(t, ended, int64(1-task))
		}
	}
}

// Who begins walks until he ends, and then no more; as often as there is room for.
func TestOneWalksAsOftenAsThereIsRoom(t *testing.T) {
	counts := []int64{0, 99999, 2}
	for walk := int64(1); walk <= 50000; walk++ {
		begun, is := impl.Counted(counts, 2)
		if counts[2] == 100000 {
			if is || !slices.Equal(begun, counts) || walk != 50000 {
				t.Fatalf("walk %d: %v %v", walk, begun, is)
			}
			return
		}
		ended, ends := impl.Counted(begun, 2)
		if !is || !ends || !slices.Equal(impl.Walking(begun), []int64{1, 2}) || !slices.Equal(impl.Walking(ended), []int64{1}) {
			t.Fatalf("walk %d: %v %v", walk, begun, ended)
		}
		counts = ended
	}
	t.Fatalf("there is room for more: %v", counts)
}

// By whoever comes, in any order: who walks is told by a plain list of flags beside it.
func TestReadersByChance(t *testing.T) {
	chance := rand.New(rand.NewSource(4))
	for tasks := 1; tasks <= 6; tasks++ {
		counts, walks := make([]int64, tasks), make([]bool, tasks)
		for range 1000 {
			task := chance.Intn(tasks)
			walks[task] = !walks[task]
			want := withCount(counts, task, counts[task]+1)
			checkCounted(t, counts, int64(task), want, true)
			counts = want
			var walking []int64
			for task, is := range walks {
				if is {
					walking = append(walking, int64(task))
				}
			}
			checkWalking(t, counts, walking...)
		}
	}
}

func TestReadersAreNewMemory(t *testing.T) {
	counts := []int64{1, 100000, 3}
	for _, task := range []int64{0, 1, 2, 3, -1} {
		first, _ := impl.Counted(counts, task)
		want := slices.Clone(first)
		second, _ := impl.Counted(counts, task)
		for i := range second {
			second[i] = 77
		}
		if len(first) != 3 || !slices.Equal(first, want) || !slices.Equal(counts, []int64{1, 100000, 3}) {
			t.Errorf("%d counted shares memory: %v %v", task, first, counts)
		}
	}
	first, second := impl.Walking(counts), impl.Walking(counts)
	second[0], second[1] = 77, 77
	if !slices.Equal(first, []int64{0, 2}) || !slices.Equal(counts, []int64{1, 100000, 3}) {
		t.Errorf("who walks shares memory: %v %v", first, counts)
	}
}

func TestReadersLeaveTheirArgument(t *testing.T) {
	for _, counts := range append(countsNotRight(), []int64{1}, []int64{0, 100000}, []int64{1, 2, 3, 4, 5, 6}) {
		leaves(t, counts, 77, func(counts []int64) {
			impl.CountsOk(counts)
			impl.Walking(counts)
			for _, task := range []int64{-1, 0, 1, 5, 6} {
				impl.Counted(counts, task)
			}
		})
	}
}
