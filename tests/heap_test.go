package tests

import (
	"math"
	"math/rand"
	"slices"
	"testing"

	"loop.example/g00743/impl"
)

// keyed makes a list of these Keys; each slot has the place where it first stood as its Id.
func keyed(keys ...int64) []impl.Slot {
	heap := []impl.Slot{}
	for i, k := range keys {
		heap = append(heap, impl.Slot{Id: int64(i), Key: k})
	}
	return heap
}

// sameKeys makes a list of so many slots of one Key.
func sameKeys(count int, key int64) []impl.Slot {
	return keyed(slices.Repeat([]int64{key}, count)...)
}

func idsOf(heap []impl.Slot) []int64 {
	ids := []int64{}
	for _, s := range heap {
		ids = append(ids, s.Id)
	}
	return ids
}

// indexes are all the places of a list of that length, those beside it, and the ends of int64.
func indexes(length int) []int64 {
	list := []int64{math.MinInt64, math.MinInt64 + 1, -1 << 32, -2, math.MaxInt64 - 1, math.MaxInt64, math.MaxInt64 / 4, math.MaxInt64/4 + 1, 1 << 32, 1 << 62}
	for i := int64(-1); i <= int64(length)+1; i++ {
		list = append(list, i)
	}
	return list
}

// The document's own words, with each slot's parent looked for among those whose child it is.
func parentIn(length int, i int64) int64 {
	for p := range int64(length) {
		for c := int64(1); c <= 4; c++ {
			if 4*p+c == i {
				return p
			}
		}
	}
	return -1
}

func expectedRaised(heap []impl.Slot, i int64) []impl.Slot {
	heap = slices.Clone(heap)
	if i < 0 || i >= int64(len(heap)) {
		return heap
	}
	for p := parentIn(len(heap), i); p >= 0 && heap[p].Key > heap[i].Key; p = parentIn(len(heap), i) {
		heap[p], heap[i] = heap[i], heap[p]
		i = p
	}
	return heap
}

func expectedSunk(heap []impl.Slot, i int64) []impl.Slot {
	heap = slices.Clone(heap)
	if i < 0 || i >= int64(len(heap)) {
		return heap
	}
	for {
		lesser := []int64{}
		for c := range int64(len(heap)) {
			if parentIn(len(heap), c) == i && heap[c].Key < heap[i].Key {
				lesser = append(lesser, c)
			}
		}
		if len(lesser) == 0 {
			return heap
		}
		slices.SortStableFunc(lesser, func(a, b int64) int {
			if heap[a].Key < heap[b].Key {
				return -1
			}
			if heap[a].Key > heap[b].Key {
				return 1
			}
			return 0
		})
		heap[i], heap[lesser[0]] = heap[lesser[0]], heap[i]
		i = lesser[0]
	}
}

func expectedOk(heap []impl.Slot) bool {
	for i := range heap {
		if p := parentIn(len(heap), int64(i)); p >= 0 && heap[i].Key < heap[p].Key {
			return false
		}
	}
	return len(heap) <= timersLimit
}

func expectedPushed(heap []impl.Slot, s impl.Slot) ([]impl.Slot, bool) {
	if len(heap) >= timersLimit {
		return slices.Clone(heap), false
	}
	return expectedRaised(append(slices.Clone(heap), s), int64(len(heap))), true
}

func expectedPulled(heap []impl.Slot, i int64) ([]impl.Slot, impl.Slot, bool) {
	heap = slices.Clone(heap)
	if i < 0 || i >= int64(len(heap)) {
		return heap, impl.Slot{}, false
	}
	taken, last := heap[i], len(heap)-1
	if int(i) == last {
		return heap[:last], taken, true
	}
	heap[i] = heap[last]
	return expectedSunk(expectedRaised(heap[:last], i), i), taken, true
}

func TestHeapOkOrdinary(t *testing.T) {
	for _, c := range []struct {
		keys []int64
		want bool
	}{
		{nil, true}, {[]int64{}, true}, {[]int64{7}, true}, {[]int64{-7}, true},
		{[]int64{1, 2}, true}, {[]int64{2, 1}, false}, {[]int64{2, 2}, true},
		{[]int64{1, 5, 4, 3, 2}, true}, {[]int64{1, 5, 4, 3, 0}, false},
		{[]int64{1, 5, 4, 3, 2, 5, 6, 7, 8}, true}, {[]int64{1, 5, 4, 3, 2, 4, 6, 7, 8}, false},
		{[]int64{1, 5, 4, 3, 2, 5, 6, 7, 4}, false}, {[]int64{1, 5, 4, 3, 2, 5, 6, 7, 8, 4}, true}, {[]int64{1, 5, 4, 3, 2, 5, 6, 7, 8, 3}, false},
		// Not the heap of two children each: 3 stands below 1, not below 5.
		{[]int64{1, 5, 6, 3}, true},
		{[]int64{math.MinInt64, math.MaxInt64}, true}, {[]int64{math.MaxInt64, math.MinInt64}, false},
		{[]int64{math.MaxInt64, math.MaxInt64}, true}, {[]int64{math.MinInt64, math.MinInt64}, true},
		{[]int64{math.MinInt64, 1}, true}, {[]int64{1, math.MinInt64}, false}, {[]int64{-2, math.MaxInt64}, true}, {[]int64{math.MaxInt64, -2}, false},
	} {
		if got := impl.HeapOk(keyed(c.keys...)); got != c.want {
			t.Errorf("HeapOk of the Keys %v is %v", c.keys, got)
		}
	}
	if !impl.HeapOk(nil) || !impl.HeapOk([]impl.Slot{}) {
		t.Error("no slots are no heap")
	}
}

func TestHeapOkAtTheLimit(t *testing.T) {
	for count, want := range map[int]bool{timersLimit - 1: true, timersLimit: true, timersLimit + 1: false, timersLimit + 2: false, 1000: false} {
		if got := impl.HeapOk(sameKeys(count, 5)); got != want {
			t.Errorf("HeapOk of %d slots is %v", count, got)
		}
		if got := impl.HeapOk(make([]impl.Slot, count)); got != want {
			t.Errorf("HeapOk of %d zero slots is %v", count, got)
		}
	}
}

// Of a heap each child is looked at, and is held against its own parent.
func TestHeapOkEachChild(t *testing.T) {
	for count := 2; count <= timersLimit; count++ {
		for i := 1; i < count; i++ {
			heap := sameKeys(count, 5)
			heap[i].Key = 4
			if impl.HeapOk(heap) {
				t.Fatalf("HeapOk of %v", heap)
			}
			// The parent is as much less: then all is right, unless it has a parent itself.
			p := parentIn(count, int64(i))
			heap[p].Key = 4
			if got := impl.HeapOk(heap); got != (p == 0) {
				t.Fatalf("HeapOk of %v is %v", heap, got)
			}
		}
	}
}

// What Ids there are, and whether one stands twice, is nothing to a heap.
func TestHeapOkOfAnyIds(t *testing.T) {
	if !impl.HeapOk([]impl.Slot{{Id: 3, Key: 1}, {Id: 3, Key: 1}, {Id: -9, Key: 2}, {Id: math.MaxInt64, Key: 2}, {Id: math.MinInt64, Key: 3}}) {
		t.Error("the Ids are looked at")
	}
}

func TestRaisedFromOrdinary(t *testing.T) {
	const least, most = math.MinInt64, math.MaxInt64
	for _, c := range []struct {
		keys []int64
		i    int64
		want []int64
	}{
		{[]int64{5}, 0, []int64{0}},
		{[]int64{5, 4}, 1, []int64{1, 0}},
		{[]int64{5, 5}, 1, []int64{0, 1}}, // of the same Key: they stay
		{[]int64{5, 6}, 1, []int64{0, 1}},
		{[]int64{5, 6, 7, 8, 4}, 4, []int64{4, 1, 2, 3, 0}},
		{[]int64{5, 6, 7, 8, 9, 4}, 5, []int64{5, 0, 2, 3, 4, 1}},
		{[]int64{5, 6, 7, 8, 9, 5}, 5, []int64{0, 5, 2, 3, 4, 1}}, // it stops below one of the same Key
		{[]int64{5, 6, 7, 8, 9, 6}, 5, []int64{0, 1, 2, 3, 4, 5}},
		{[]int64{5, 6, 7, 8, 9, 6, 6, 6, 4}, 8, []int64{8, 0, 2, 3, 4, 5, 6, 7, 1}}, // the last child of the slot 1
		{[]int64{5, 6, 7, 8, 9, 6, 6, 6, 6, 4}, 9, []int64{9, 1, 0, 3, 4, 5, 6, 7, 8, 2}},
		{[]int64{5, 1, 2, 3, 4}, 0, []int64{0, 1, 2, 3, 4}},                               // the top has no parent
		{[]int64{5, 1, 2, 3, 4, 7}, 5, []int64{0, 1, 2, 3, 4, 5}},                         // only its own way is looked at
		{[]int64{9, 5, 9, 9, 9, 9, 9, 9, 9, 1}, 1, []int64{1, 0, 2, 3, 4, 5, 6, 7, 8, 9}}, // nothing below it moves
		{[]int64{most, least}, 1, []int64{1, 0}}, {[]int64{least, most}, 1, []int64{0, 1}},
		{[]int64{most, most}, 1, []int64{0, 1}}, {[]int64{least, least}, 1, []int64{0, 1}}, {[]int64{1, least}, 1, []int64{1, 0}}, {[]int64{least, 1}, 1, []int64{0, 1}},
	} {
		if got := idsOf(impl.RaisedFrom(keyed(c.keys...), c.i)); !slices.Equal(got, c.want) {
			t.Errorf("RaisedFrom(%v, %d) is %v, not %v", c.keys, c.i, got, c.want)
		}
	}
}

func TestSunkFromOrdinary(t *testing.T) {
	const least, most = math.MinInt64, math.MaxInt64
	for _, c := range []struct {
		keys []int64
		i    int64
		want []int64
	}{
		{[]int64{5}, 0, []int64{0}},
		{[]int64{5, 4}, 0, []int64{1, 0}},
		{[]int64{5, 5}, 0, []int64{0, 1}}, // of the same Key: they stay
		{[]int64{5, 6}, 0, []int64{0, 1}},
		{[]int64{9, 1, 2, 3, 4}, 0, []int64{1, 0, 2, 3, 4}},       // the first child is the least
		{[]int64{9, 2, 3, 4, 1}, 0, []int64{4, 1, 2, 3, 0}},       // the last one
		{[]int64{9, 2, 1, 3, 4}, 0, []int64{2, 1, 0, 3, 4}},       // one between
		{[]int64{9, 3, 1, 1, 2}, 0, []int64{2, 1, 0, 3, 4}},       // two alike: the first one of them
		{[]int64{9, 1, 1, 1, 1}, 0, []int64{1, 0, 2, 3, 4}},       // all alike
		{[]int64{9, 2, 2, 1, 1}, 0, []int64{3, 1, 2, 0, 4}},       // the last two
		{[]int64{5, 5, 4, 5, 4}, 0, []int64{2, 1, 0, 3, 4}},       // with some of its own Key
		{[]int64{9, 9, 9, 9, 9, 1}, 0, []int64{0, 1, 2, 3, 4, 5}}, // no child of the top
		{[]int64{9, 9, 9, 9, 9, 1}, 1, []int64{0, 5, 2, 3, 4, 1}}, // the only child
		{[]int64{9, 1, 2, 3, 4, 5, 6, 7, 8}, 0, []int64{1, 5, 2, 3, 4, 0, 6, 7, 8}},
		{[]int64{9, 1, 2, 3, 4, 9, 9, 9, 8}, 0, []int64{1, 8, 2, 3, 4, 5, 6, 7, 0}},
		{[]int64{9, 1, 2, 3, 4, 9, 9, 9, 9, 3}, 0, []int64{1, 0, 2, 3, 4, 5, 6, 7, 8, 9}}, // it stops above those of its own Key
		{[]int64{9, 5, 1, 3, 4, 6, 6, 6, 6, 8, 7}, 0, []int64{2, 1, 10, 3, 4, 5, 6, 7, 8, 9, 0}},
		{[]int64{9, 5, 1, 3, 4, 6, 6, 6, 6, 8, 7}, 2, []int64{0, 1, 2, 3, 4, 5, 6, 7, 8, 9, 10}}, // nothing above it moves
		{[]int64{most, least}, 0, []int64{1, 0}}, {[]int64{least, most}, 0, []int64{0, 1}},
		{[]int64{most, most}, 0, []int64{0, 1}}, {[]int64{least, least}, 0, []int64{0, 1}},
		{[]int64{1, most, least, most}, 0, []int64{2, 1, 0, 3}}, {[]int64{1, most, 0, least, -1}, 0, []int64{3, 1, 2, 0, 4}},
	} {
		if got := idsOf(impl.SunkFrom(keyed(c.keys...), c.i)); !slices.Equal(got, c.want) {
			t.Errorf("SunkFrom(%v, %d) is %v, not %v", c.keys, c.i, got, c.want)
		}
	}
}

// The greatest indexes are those at which four times the index would wrap around.
func TestRaisedAndSunkWhereThereIsNoSlot(t *testing.T) {
	for _, heap := range [][]impl.Slot{nil, {}, keyed(5), keyed(3, 2), keyed(9, 8, 7, 6, 5, 4, 3, 2, 1)} {
		for _, i := range indexes(len(heap)) {
			if i >= 0 && i < int64(len(heap)) {
				continue
			}
			if got := impl.RaisedFrom(heap, i); !slices.Equal(got, heap) {
				t.Errorf("RaisedFrom(%v, %d) is %v", heap, i, got)
			}
			if got := impl.SunkFrom(heap, i); !slices.Equal(got, heap) {
				t.Errorf("SunkFrom(%v, %d) is %v", heap, i, got)
			}
		}
	}
}

func TestPushedOnOrdinary(t *testing.T) {
	for _, c := range []struct {
		keys []int64
		key  int64
		want []int64
	}{
		{nil, 5, []int64{0}},
		{[]int64{}, -5, []int64{0}},
		{[]int64{5}, 4, []int64{1, 0}}, {[]int64{5}, 5, []int64{0, 1}}, {[]int64{5}, 6, []int64{0, 1}},
		{[]int64{5, 6, 7, 8}, 4, []int64{4, 1, 2, 3, 0}},
		{[]int64{5, 6, 7, 8, 9}, 5, []int64{0, 5, 2, 3, 4, 1}},
		{[]int64{5, 6, 7, 8, 9}, math.MinInt64, []int64{5, 0, 2, 3, 4, 1}}, {[]int64{5, 6, 7, 8, 9}, math.MaxInt64, []int64{0, 1, 2, 3, 4, 5}},
		{[]int64{9, 1, 7, 8}, 5, []int64{4, 1, 2, 3, 0}}, // no heap: only its own way is looked at
	} {
		heap := keyed(c.keys...)
		pushed := impl.Slot{Id: int64(len(heap)), Key: c.key}
		got, is := impl.PushedOn(heap, pushed)
		if !is || !slices.Equal(idsOf(got), c.want) || got[slices.Index(c.want, pushed.Id)] != pushed {
			t.Errorf("PushedOn(%v, %v) is %v, %v", heap, pushed, got, is)
		}
	}
}

func TestPushedOnAtTheLimit(t *testing.T) {
	for _, count := range []int{timersLimit - 1, timersLimit, timersLimit + 1, timersLimit + 2, 100} {
		heap := sameKeys(count, 5)
		for _, key := range []int64{4, 5, 6, math.MinInt64, math.MaxInt64} {
			s := impl.Slot{Id: 77, Key: key}
			got, is := impl.PushedOn(heap, s)
			if count >= timersLimit {
				if is || !slices.Equal(got, heap) {
					t.Errorf("PushedOn %d slots, Key %d: %v, %v", count, key, got, is)
				}
				continue
			}
			want, _ := expectedPushed(heap, s)
			if !is || len(got) != timersLimit || !slices.Equal(got, want) {
				t.Errorf("PushedOn %d slots, Key %d: %v, %v", count, key, got, is)
			}
		}
	}
}

func TestPulledOffOrdinary(t *testing.T) {
	for _, c := range []struct {
		keys []int64
		i    int64
		want []int64
	}{
		{[]int64{5}, 0, nil},
		{[]int64{5, 6}, 0, []int64{1}}, {[]int64{5, 6}, 1, []int64{0}},
		{[]int64{1, 2, 3, 4, 5}, 0, []int64{1, 4, 2, 3}},
		{[]int64{1, 5, 4, 3, 2}, 0, []int64{4, 1, 2, 3}},
		{[]int64{1, 2, 2, 2, 9}, 0, []int64{1, 4, 2, 3}},
		{[]int64{1, 2, 3, 4, 5}, 4, []int64{0, 1, 2, 3}},                                                    // the last slot: nothing comes in its place
		{[]int64{1, 2, 3, 4, 5}, 2, []int64{0, 1, 4, 3}},                                                    // what was last stays where it comes to
		{[]int64{1, 10, 2, 2, 2, 11, 12, 13, 14, 3}, 6, []int64{0, 9, 2, 3, 4, 5, 1, 7, 8}},                 // it must rise
		{[]int64{1, 2, 2, 2, 2, 3, 3, 3, 3, 4, 5, 6, 9}, 1, []int64{0, 5, 2, 3, 4, 12, 6, 7, 8, 9, 10, 11}}, // it must sink
		{[]int64{1, 2, 2, 2, 2, 3, 3, 3, 3, 3}, 1, []int64{0, 9, 2, 3, 4, 5, 6, 7, 8}},                      // of the same Key as those below it
		{[]int64{1, 3, 2, 2, 2, 4, 4, 4, 4, 3}, 5, []int64{0, 1, 2, 3, 4, 9, 6, 7, 8}},                      // and as the one above it
		{[]int64{9, 8, 7, 6, 5, 4}, 0, []int64{5, 1, 2, 3, 4}},                                              // no heap
		{[]int64{9, 8, 1, 6, 5, 4}, 1, []int64{5, 0, 2, 3, 4}},                                              // no heap: it rises, and what came down from above stays
		{[]int64{9, 8, 7, 6, 5, 1, 2, 3, 8, 4}, 1, []int64{9, 5, 2, 3, 4, 0, 6, 7, 8}},                      // no heap: it rises, and what came down from above sinks
	} {
		heap := keyed(c.keys...)
		got, taken, is := impl.PulledOff(heap, c.i)
		if !is || taken != heap[c.i] || !slices.Equal(idsOf(got), c.want) {
			t.Errorf("PulledOff(%v, %d) is %v, %v, %v, not %v", heap, c.i, idsOf(got), taken, is, c.want)
		}
	}
}

func TestPulledOffWhereThereIsNoSlot(t *testing.T) {
	for _, heap := range [][]impl.Slot{nil, {}, keyed(5), keyed(1, 2, 3), keyed(9, 8, 7, 6, 5, 4), sameKeys(timersLimit, 5), sameKeys(timersLimit+1, 5)} {
		for _, i := range indexes(len(heap)) {
			if i >= 0 && i < int64(len(heap)) {
				continue
			}
			if got, taken, is := impl.PulledOff(heap, i); is || taken != (impl.Slot{}) || !slices.Equal(got, heap) {
				t.Errorf("PulledOff(%v, %d) is %v, %v, %v", heap, i, got, taken, is)
			}
		}
	}
}

func TestFindSlot(t *testing.T) {
	heap := []impl.Slot{{Id: 4, Key: 1}, {Id: 7, Key: 2}, {Id: -1, Key: 7}, {Id: 7, Key: 9}, {Id: math.MaxInt64, Key: 3}, {Id: math.MinInt64, Key: 3}, {Id: 4, Key: 0}}
	for id, want := range map[int64]int64{4: 0, 7: 1, -1: 2, math.MaxInt64: 4, math.MinInt64: 5, 0: -1, 1: -1, 2: -1, 3: -1, 9: -1, math.MaxInt64 - 1: -1} {
		if got := impl.FindSlot(heap, id); got != want {
			t.Errorf("FindSlot(%v, %d) is %d, not %d", heap, id, got, want)
		}
	}
	if impl.FindSlot(nil, 0) != -1 || impl.FindSlot([]impl.Slot{}, 0) != -1 || impl.FindSlot(make([]impl.Slot, 3), 0) != 0 {
		t.Error("no slots, or all alike")
	}
	long := keyed(make([]int64, 50)...)
	for id := int64(-1); id <= 50; id++ {
		want := id
		if id == 50 {
			want = -1
		}
		if got := impl.FindSlot(long, id); got != want {
			t.Errorf("FindSlot %d of 50 is %d", id, got)
		}
	}
}

// checkAsTold holds all six functions against the document's own words.
func checkAsTold(t *testing.T, heap []impl.Slot) {
	t.Helper()
	if got := impl.HeapOk(heap); got != expectedOk(heap) {
		t.Fatalf("HeapOk(%v) is %v", heap, got)
	}
	for i := int64(-1); i <= int64(len(heap)); i++ {
		if got, want := impl.RaisedFrom(heap, i), expectedRaised(heap, i); !slices.Equal(got, want) {
			t.Fatalf("RaisedFrom(%v, %d) is %v, not %v", heap, i, got, want)
		}
		if got, want := impl.SunkFrom(heap, i), expectedSunk(heap, i); !slices.Equal(got, want) {
			t.Fatalf("SunkFrom(%v, %d) is %v, not %v", heap, i, got, want)
		}
		got, taken, is := impl.PulledOff(heap, i)
		want, wantTaken, wantIs := expectedPulled(heap, i)
		if is != wantIs || taken != wantTaken || !slices.Equal(got, want) {
			t.Fatalf("PulledOff(%v, %d) is %v, %v, %v, not %v", heap, i, got, taken, is, want)
		}
	}
	for key := int64(-1); key <= 4; key++ {
		s := impl.Slot{Id: 99, Key: key}
		got, is := impl.PushedOn(heap, s)
		if want, wantIs := expectedPushed(heap, s); is != wantIs || !slices.Equal(got, want) {
			t.Fatalf("PushedOn(%v, %v) is %v, %v, not %v", heap, s, got, is, want)
		}
	}
	for id := int64(-1); id <= int64(len(heap)); id++ {
		if got, want := impl.FindSlot(heap, id), int64(slices.Index(idsOf(heap), id)); got != want {
			t.Fatalf("FindSlot(%v, %d) is %d, not %d", heap, id, got, want)
		}
	}
}

// Heaps and lists that are none: all short ones of three Keys.
func TestHeapsAsToldOfAllShortLists(t *testing.T) {
	for length := 0; length <= 6; length++ {
		keys := make([]int64, length)
		for {
			checkAsTold(t, keyed(keys...))
			at := 0
			for at < length && keys[at] == 2 {
				keys[at] = 0
				at++
			}
			if at == length {
				break
			}
			keys[at]++
		}
	}
}

func TestHeapsAsToldOfLongLists(t *testing.T) {
	r := rand.New(rand.NewSource(2))
	for range 60 {
		for _, length := range []int{7, 9, 10, 16, 20, 21, 22, timersLimit - 1, timersLimit, timersLimit + 1, 45, 90} {
			keys := make([]int64, length)
			for i := range keys {
				keys[i] = r.Int63n(4)
				if length%2 == 1 {
					keys[i] = r.Int63n(1000) - 500
				}
			}
			checkAsTold(t, keyed(keys...))
			slices.Sort(keys)
			checkAsTold(t, keyed(keys...))
		}
	}
}

// orders are lists of up to MaxTimers Keys: rising, falling, all alike, with the ends of int64, and as they come.
func orders() [][]int64 {
	r := rand.New(rand.NewSource(22))
	list := [][]int64{{}, {5}, {5, 5}, {2, 1}, {math.MaxInt64, math.MinInt64, 0, math.MaxInt64, math.MinInt64, -1, 1}}
	for length := 1; length <= timersLimit; length++ {
		rising, falling, alike := []int64{}, []int64{}, []int64{}
		few, many := []int64{}, []int64{}
		for i := range int64(length) {
			rising, falling, alike = append(rising, i), append(falling, -i), append(alike, 7)
			few, many = append(few, r.Int63n(3)), append(many, int64(r.Uint64()))
		}
		list = append(list, rising, falling, alike, few, many)
	}
	return list
}

// heapOf puts slots of these Keys in, one after the other, and sees that it is a heap each time.
func heapOf(t *testing.T, keys []int64) []impl.Slot {
	t.Helper()
	heap := []impl.Slot(nil)
	for i, k := range keys {
		next, is := impl.PushedOn(heap, impl.Slot{Id: int64(i), Key: k})
		if !is || !impl.HeapOk(next) || !expectedOk(next) || len(next) != i+1 {
			t.Fatalf("Key %d put onto %v: %v, %v", k, heap, next, is)
		}
		heap = next
	}
	return heap
}

func sameSlots(a []impl.Slot, b []impl.Slot) bool {
	count := map[impl.Slot]int{}
	for _, s := range a {
		count[s]++
	}
	for _, s := range b {
		count[s]--
	}
	for _, n := range count {
		if n != 0 {
			return false
		}
	}
	return true
}

// Promise 2: what is taken off the top, again and again, comes in order, and is what was put in.
func TestPromise2TopComesInOrder(t *testing.T) {
	for _, keys := range orders() {
		heap := heapOf(t, keys)
		if !sameSlots(heap, keyed(keys...)) {
			t.Fatalf("of %v there is %v", keys, heap)
		}
		all := []impl.Slot{}
		for len(heap) > 0 {
			next, taken, is := impl.PulledOff(heap, 0)
			if !is || taken != heap[0] || len(next) != len(heap)-1 || !impl.HeapOk(next) || !expectedOk(next) {
				t.Fatalf("top of %v: %v, %v, %v", heap, next, taken, is)
			}
			all = append(all, taken)
			heap = next
		}
		if !sameSlots(all, keyed(keys...)) || !slices.IsSortedFunc(all, func(a, b impl.Slot) int {
			if a.Key < b.Key {
				return -1
			}
			if a.Key > b.Key {
				return 1
			}
			return 0
		}) {
			t.Fatalf("%v came as %v", keys, all)
		}
	}
}

// Promise 2: a heap stays one wherever it is pulled off, and all the others stay in it.
func TestPromise2StaysAHeapWhereverItIsPulledOff(t *testing.T) {
	for _, keys := range orders() {
		heap := heapOf(t, keys)
		for i := range heap {
			next, taken, is := impl.PulledOff(heap, int64(i))
			if !is || taken != heap[i] || !impl.HeapOk(next) || !expectedOk(next) || !sameSlots(append(slices.Clone(next), taken), heap) {
				t.Fatalf("PulledOff(%v, %d) is %v, %v, %v", heap, i, next, taken, is)
			}
		}
	}
}

// Promise 2: a heap of which one Key was changed is one again when it is raised, or sunk, from there.
func TestPromise2OneKeyChanged(t *testing.T) {
	for _, keys := range orders() {
		heap := heapOf(t, keys)
		for i := range heap {
			for _, key := range []int64{math.MinInt64, -3, 0, 1, 2, 5, 7, 12, math.MaxInt64} {
				changed := slices.Clone(heap)
				changed[i].Key = key
				move := impl.SunkFrom
				if key < heap[i].Key {
					move = impl.RaisedFrom
				}
				if got := move(changed, int64(i)); !impl.HeapOk(got) || !expectedOk(got) || !sameSlots(got, changed) {
					t.Fatalf("%v with Key %d at %d comes to %v", heap, key, i, got)
				}
			}
		}
	}
}

// Promise 2: putting in and taking out by turns, as long as one likes.
func TestPromise2ByTurns(t *testing.T) {
	r := rand.New(rand.NewSource(222))
	heap, held := []impl.Slot{}, []impl.Slot{}
	for turn := range int64(4000) {
		if r.Intn(100) < 52 {
			s := impl.Slot{Id: turn, Key: r.Int63n(50) - 25}
			next, is := impl.PushedOn(heap, s)
			if is != (len(heap) < timersLimit) {
				t.Fatalf("%v onto %d slots: %v", s, len(heap), is)
			}
			if is {
				held = append(held, s)
			}
			heap = next
		} else if len(heap) > 0 {
			next, taken, is := impl.PulledOff(heap, int64(r.Intn(len(heap))))
			at := slices.Index(held, taken)
			if !is || at < 0 {
				t.Fatalf("%v was never in %v", taken, held)
			}
			held = slices.Delete(held, at, at+1)
			heap = next
		}
		if !impl.HeapOk(heap) || !expectedOk(heap) || !sameSlots(heap, held) {
			t.Fatalf("turn %d: %v, not %v", turn, heap, held)
		}
	}
}

const spareSlots = 5

// spared is a list with spare room behind it, and all that there is, to see later whether it stayed.
func spared(heap []impl.Slot) ([]impl.Slot, []impl.Slot) {
	whole := slices.Clone(heap)
	for i := range int64(spareSlots) {
		whole = append(whole, impl.Slot{Id: -100 - i, Key: -1000 - i})
	}
	return whole[:len(heap)], whole
}

// heapAnswers are the calls that answer a list, each with what it was asked for.
func heapAnswers(i int64, s impl.Slot) map[string]func([]impl.Slot) []impl.Slot {
	return map[string]func([]impl.Slot) []impl.Slot{
		"RaisedFrom": func(heap []impl.Slot) []impl.Slot { return impl.RaisedFrom(heap, i) },
		"SunkFrom":   func(heap []impl.Slot) []impl.Slot { return impl.SunkFrom(heap, i) },
		"PushedOn":   func(heap []impl.Slot) []impl.Slot { got, _ := impl.PushedOn(heap, s); return got },
		"PulledOff":  func(heap []impl.Slot) []impl.Slot { got, _, _ := impl.PulledOff(heap, i); return got },
	}
}

// memoryLists: heaps and lists that are none, short of the limit, at it and past it.
func memoryLists() [][]impl.Slot {
	falling := []int64{}
	for i := range int64(timersLimit + 1) {
		falling = append(falling, timersLimit-i)
	}
	return [][]impl.Slot{
		nil, {}, keyed(5), keyed(5, 5), keyed(1, 2), keyed(2, 1), keyed(9, 8, 7, 6, 5, 4, 3, 2, 1), keyed(1, 2, 3, 4, 5, 6, 7, 8, 9, 10),
		keyed(falling[:timersLimit-1]...), keyed(falling[:timersLimit]...), keyed(falling...), sameKeys(timersLimit, 5), sameKeys(timersLimit+1, 5),
	}
}

// Promise 19: nothing is written into an argument nor behind it, and an answer shares no memory with it.
func TestPromise19HeapAnswersAreNewMemory(t *testing.T) {
	for _, heap := range memoryLists() {
		for _, i := range indexes(len(heap)) {
			for _, s := range []impl.Slot{{Id: 50, Key: math.MinInt64}, {Id: 50, Key: 5}, {Id: 50, Key: math.MaxInt64}} {
				for name, call := range heapAnswers(i, s) {
					checkNewMemory(t, name, heap, call)
				}
			}
		}
	}
}

func checkNewMemory(t *testing.T, name string, heap []impl.Slot, call func([]impl.Slot) []impl.Slot) {
	t.Helper()
	given, whole := spared(heap)
	before := slices.Clone(whole)
	got := call(given)
	if !slices.Equal(whole, before) {
		t.Fatalf("%s wrote into %v, or behind it: %v", name, heap, whole)
	}
	answer := slices.Clone(got)
	for j := range whole {
		whole[j] = impl.Slot{Id: 1234, Key: 5678}
	}
	if !slices.Equal(got, answer) {
		t.Fatalf("%s of %v shares memory with it", name, heap)
	}
	copy(whole, before)
	room := got[:cap(got)]
	for j := range room {
		room[j] = impl.Slot{Id: 4321, Key: 8765}
	}
	if !slices.Equal(whole, before) {
		t.Fatalf("%s of %v: the answer, or the room behind it, is the argument's", name, heap)
	}
	if again := call(given); !slices.Equal(again, answer) {
		t.Fatalf("%s of %v is %v, then %v", name, heap, answer, again)
	}
}

// What is behind a list is no part of it: an answer is the same whatever the spare room holds.
func TestPromise19HeapsAreAskedOfTheListAlone(t *testing.T) {
	for _, heap := range memoryLists() {
		given, whole := spared(heap)
		before := slices.Clone(whole)
		if impl.HeapOk(given) != impl.HeapOk(slices.Clip(slices.Clone(heap))) || impl.HeapOk(given) != expectedOk(heap) {
			t.Errorf("HeapOk of %v depends on what is behind it", heap)
		}
		if impl.FindSlot(given, -100) != -1 || impl.FindSlot(given, -104) != -1 {
			t.Errorf("FindSlot found what is behind %v", heap)
		}
		if !slices.Equal(whole, before) {
			t.Errorf("HeapOk or FindSlot wrote into %v, or behind it", heap)
		}
	}
}

// Promise 19: every function answers at every argument, and none panics.
func TestPromise19HeapsAnswerEverywhere(t *testing.T) {
	for _, heap := range memoryLists() {
		for _, n := range slices.Concat(edges, indexes(len(heap))) {
			checkHeapAnswers(t, heap, n)
		}
	}
}

func checkHeapAnswers(t *testing.T, heap []impl.Slot, n int64) {
	t.Helper()
	defer func() {
		if e := recover(); e != nil {
			t.Fatalf("panic at %v, %d: %v", heap, n, e)
		}
	}()
	there := n >= 0 && n < int64(len(heap))
	if len(impl.RaisedFrom(heap, n)) != len(heap) || len(impl.SunkFrom(heap, n)) != len(heap) {
		t.Fatalf("RaisedFrom or SunkFrom of %v, %d lost a slot", heap, n)
	}
	if got, taken, is := impl.PulledOff(heap, n); is != there || !is && (taken != impl.Slot{} || len(got) != len(heap)) || is && len(got) != len(heap)-1 {
		t.Fatalf("PulledOff(%v, %d) is %v, %v, %v", heap, n, got, taken, is)
	}
	if got, is := impl.PushedOn(heap, impl.Slot{Id: n, Key: n}); is != (len(heap) < timersLimit) || is && len(got) != len(heap)+1 || !is && len(got) != len(heap) {
		t.Fatalf("PushedOn(%v, %d) is %v, %v", heap, n, got, is)
	}
	if at := impl.FindSlot(heap, n); at < -1 || at >= int64(len(heap)) || at >= 0 && heap[at].Id != n {
		t.Fatalf("FindSlot(%v, %d) is %d", heap, n, at)
	}
	if impl.HeapOk(heap) != expectedOk(heap) {
		t.Fatalf("HeapOk(%v)", heap)
	}
}
