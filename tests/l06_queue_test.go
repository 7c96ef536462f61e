package tests

import (
	"math"
	"slices"
	"strconv"
	"testing"

	"loop.example/g00732/impl"
)

func item(id int64, rev int64) impl.Item {
	return impl.Item{Key: impl.Key{Type: 1, Id: id, Adv: 7}, Rev: rev}
}

func queue(size int64, list ...impl.Item) impl.Queue {
	return impl.Queue{Cap: size, Items: list}
}

func marking(q impl.Queue) impl.Queue {
	q.Marks = true
	return q
}

// rising has n items whose Revs rise from rev on, and whose Ids fall: neither order is the other one.
func rising(n int64, rev int64) []impl.Item {
	var list []impl.Item
	for i := range n {
		list = append(list, item(20-i, rev+i*(i+1)/2))
	}
	return list
}

// queues are without a fault, of each Cap from empty to full ones, with a mark and without.
func queues() []impl.Queue {
	var list []impl.Queue
	for size := int64(1); size <= impl.MaxCap; size++ {
		for n := range size + 1 {
			for _, rev := range []int64{1, 500, impl.MaxRev - n*(n-1)/2} {
				q := queue(size, rising(n, rev)...)
				list = append(list, q, marking(q))
			}
		}
	}
	return list
}

func cloneQueue(q impl.Queue) impl.Queue {
	q.Items = slices.Clone(q.Items)
	return q
}

// turnedItem is q in which the item at the place has gone through the turn.
func turnedItem(q impl.Queue, at int, turn func(i *impl.Item)) impl.Queue {
	q = cloneQueue(q)
	turn(&q.Items[at])
	return q
}

// isQueue asks field by field, so that a SameQueues that overlooks one does not hide it.
func isQueue(a impl.Queue, b impl.Queue) bool {
	return a.Cap == b.Cap && a.Marks == b.Marks && slices.Equal(a.Items, b.Items)
}

func isQueueResult(a impl.QueueResult, b impl.QueueResult) bool {
	return a.Code == b.Code && isQueue(a.Queue, b.Queue) && a.Mark == b.Mark && slices.Equal(a.Items, b.Items)
}

func queueName(q impl.Queue) string {
	name := strconv.Itoa(len(q.Items)) + " items of " + strconv.FormatInt(q.Cap, 10)
	if q.Marks {
		name += " with a mark"
	}
	return name
}

func wantQueue(t *testing.T, what string, got impl.QueueResult, want impl.QueueResult) {
	t.Helper()
	if !isQueueResult(got, want) {
		t.Errorf("%s: got %v, want %v", what, got, want)
	}
}

// wantPushed is for what tells no Mark and no Items.
func wantPushed(t *testing.T, what string, got impl.QueueResult, want impl.Queue) {
	t.Helper()
	wantQueue(t, what, got, impl.QueueResult{Queue: want})
}

func wantQueueCode(t *testing.T, what string, got impl.QueueResult, code int64) {
	t.Helper()
	if !isQueueResult(got, impl.QueueResult{Code: code}) {
		// Not the queue itself, which may be a huge one.
		t.Errorf("%s: got code %d, %s, mark %v, %d items, want code %d and nothing else", what, got.Code, queueName(got.Queue), got.Mark, len(got.Items), code)
	}
}

// wantQueueFault asks the fault of q of all that tell it, ahead of what else may be wrong.
func wantQueueFault(t *testing.T, what string, q impl.Queue, code int64) {
	t.Helper()
	if got := impl.QueueFault(q); got != code {
		t.Errorf("%s: QueueFault is %d, want %d", what, got, code)
	}
	if code == impl.OK {
		wantPushed(t, what+", PushAll of none", impl.PushAll(q, nil), q)
		return
	}
	wantQueueCode(t, what+", PopItem", impl.PopItem(q), code)
	wantQueueCode(t, what+", DrainQueue", impl.DrainQueue(q), code)
	wantQueueCode(t, what+", PushAll of none", impl.PushAll(q, nil), code)
	wantQueueCode(t, what+", PushAll of too many", impl.PushAll(q, make([]impl.Item, 101)), code)
	for _, i := range []impl.Item{{}, item(20, 0), item(20, 1), item(1, impl.MaxRev), item(20, impl.MaxRev), item(1, impl.MaxRev+1), item(1, math.MinInt64)} {
		wantQueueCode(t, what+", PushItem", impl.PushItem(q, i), code)
		wantQueueCode(t, what+", PushAll", impl.PushAll(q, []impl.Item{i, i}), code)
	}
}

// noRevs are numbers that no Rev may be.
func noRevs() []int64 {
	return []int64{0, -1, -2, -impl.MaxRev, impl.MaxRev + 1, impl.MaxRev + 2, 1 << 32, math.MinInt64, math.MaxInt64}
}

// What follows is the chapter anew, by lists alone; all of it is asked of what has no fault.

func plainPush(q impl.Queue, i impl.Item) impl.QueueResult {
	if i.Rev < 1 || i.Rev > impl.MaxRev {
		return impl.QueueResult{Code: impl.ErrRange}
	}
	others := []impl.Item{}
	for _, x := range q.Items {
		if x.Rev >= i.Rev {
			return impl.QueueResult{Code: impl.ErrForm}
		}
		if x.Key != i.Key {
			others = append(others, x)
		}
	}
	if int64(len(others)) == q.Cap {
		return impl.QueueResult{Queue: marking(queue(q.Cap, i))}
	}
	q.Items = append(others, i)
	return impl.QueueResult{Queue: q}
}

func plainPushAll(q impl.Queue, list []impl.Item) impl.QueueResult {
	r := impl.QueueResult{Queue: cloneQueue(q)}
	for _, i := range list {
		if r = plainPush(r.Queue, i); r.Code != impl.OK {
			return r
		}
	}
	return r
}

func plainPop(q impl.Queue) impl.QueueResult {
	switch {
	case q.Marks:
		return impl.QueueResult{Queue: queue(q.Cap, q.Items...), Mark: true}
	case len(q.Items) == 0:
		return impl.QueueResult{Code: impl.ErrNone}
	}
	return impl.QueueResult{Queue: queue(q.Cap, q.Items[1:]...), Items: q.Items[:1]}
}

func plainDrain(q impl.Queue) impl.QueueResult {
	return impl.QueueResult{Queue: queue(q.Cap), Mark: q.Marks, Items: q.Items}
}

// popAll pops one by one until there is none: how many marks came ahead of the items and in all, and all items.
func popAll(t *testing.T, q impl.Queue) (ahead int, marks int, items []impl.Item) {
	t.Helper()
	for range impl.MaxCap + 2 {
		r := impl.PopItem(q)
		if r.Code != impl.OK {
			wantQueueCode(t, "behind the last one", r, impl.ErrNone)
			return ahead, marks, items
		}
		if r.Mark {
			marks++
		}
		if len(items) == 0 {
			ahead = marks
		}
		items = append(items, r.Items...)
		q = r.Queue
	}
	t.Errorf("%s: there is no end of it", queueName(q))
	return ahead, marks, items
}

func countMark(mark bool) int {
	if mark {
		return 1
	}
	return 0
}

func TestQueueConstantsHaveTheirNumbers(t *testing.T) {
	if impl.MaxCap != 8 || impl.MaxRev != 100000 {
		t.Errorf("MaxCap is %d, MaxRev is %d", impl.MaxCap, impl.MaxRev)
	}
}

func TestP7QueueFaultOfNone(t *testing.T) {
	for _, q := range queues() {
		wantQueueFault(t, queueName(q), q, impl.OK)
	}
	for _, n := range oddNumbers() {
		q := queue(3, impl.Item{Key: impl.Key{Type: n, Id: n, Adv: n}, Rev: 1}, impl.Item{Key: impl.Key{Type: n, Id: n, Adv: -3}, Rev: 2}, impl.Item{Key: impl.Key{Id: n, Adv: -5}, Rev: 3})
		wantQueueFault(t, "any numbers of a Key", q, impl.OK)
	}
	wantQueueFault(t, "a list that is empty, and not nil", impl.Queue{Cap: 2, Items: []impl.Item{}}, impl.OK)
}

func TestP7QueueFaultRangeOfCap(t *testing.T) {
	for _, size := range []int64{0, -1, -2, -impl.MaxCap, impl.MaxCap + 1, impl.MaxCap + 2, 1 << 32, math.MinInt64, math.MaxInt64} {
		name := "Cap " + strconv.FormatInt(size, 10)
		wantQueueFault(t, name, queue(size), impl.ErrRange)
		wantQueueFault(t, name+", with a mark", marking(queue(size)), impl.ErrRange)
		wantQueueFault(t, name+", with items", queue(size, rising(3, 1)...), impl.ErrRange)
		wantQueueFault(t, name+", ahead of too many", queue(size, rising(11, 1)...), impl.ErrRange)
		wantQueueFault(t, name+", ahead of a Rev", queue(size, item(1, 0)), impl.ErrRange)
		wantQueueFault(t, name+", ahead of Revs that fall", queue(size, item(1, 2), item(2, 1)), impl.ErrRange)
		wantQueueFault(t, name+", ahead of twins", queue(size, item(1, 1), item(1, 2)), impl.ErrRange)
	}
	wantQueueFault(t, "nothing at all", impl.Queue{}, impl.ErrRange)
	wantQueueFault(t, "the least Cap", queue(1), impl.OK)
	wantQueueFault(t, "the greatest Cap", queue(impl.MaxCap), impl.OK)
}

func TestP7QueueFaultManyItems(t *testing.T) {
	for size := int64(1); size <= impl.MaxCap; size++ {
		name := "Cap " + strconv.FormatInt(size, 10)
		wantQueueFault(t, name+", as many", queue(size, rising(size, 1)...), impl.OK)
		one := queue(size, rising(size+1, 1)...)
		wantQueueFault(t, name+", one more", one, impl.ErrMany)
		wantQueueFault(t, name+", one more, with a mark", marking(one), impl.ErrMany)
		wantQueueFault(t, name+", far more", queue(size, rising(200, 1)...), impl.ErrMany)
		wantQueueFault(t, name+", many of nothing", queue(size, make([]impl.Item, 100000)...), impl.ErrMany)
		for at := range one.Items {
			wantQueueFault(t, name+", ahead of a Rev of 0", turnedItem(one, at, func(i *impl.Item) { i.Rev = 0 }), impl.ErrMany)
			wantQueueFault(t, name+", ahead of a Rev that is too high", turnedItem(one, at, func(i *impl.Item) { i.Rev = impl.MaxRev + 1 }), impl.ErrMany)
		}
		wantQueueFault(t, name+", ahead of Revs that fall", turnedItem(one, 0, func(i *impl.Item) { i.Rev = 99 }), impl.ErrMany)
		wantQueueFault(t, name+", ahead of twins", turnedItem(one, 0, func(i *impl.Item) { i.Key = one.Items[size].Key }), impl.ErrMany)
	}
}

func TestP7QueueFaultRangeOfRev(t *testing.T) {
	sound := queue(5, rising(4, 10)...)
	for _, rev := range noRevs() {
		name := "Rev " + strconv.FormatInt(rev, 10)
		wantQueueFault(t, name+", the only one", queue(1, item(1, rev)), impl.ErrRange)
		wantQueueFault(t, name+", the only one, with a mark", marking(queue(8, item(1, rev))), impl.ErrRange)
		for at := range sound.Items {
			bad := turnedItem(sound, at, func(i *impl.Item) { i.Rev = rev })
			wantQueueFault(t, name+" at "+strconv.Itoa(at), bad, impl.ErrRange)
			other := (at + 2) % 4
			twins := turnedItem(bad, other, func(i *impl.Item) { i.Key = bad.Items[at].Key })
			wantQueueFault(t, name+", beside twins", twins, impl.ErrRange)
		}
		// Those that fall stand ahead of the one that is out of bounds, and are asked behind it.
		wantQueueFault(t, name+", behind Revs that fall", queue(3, item(1, 9), item(2, 8), item(3, rev)), impl.ErrRange)
		wantQueueFault(t, name+", behind two that are the same", queue(3, item(1, 9), item(2, 9), item(3, rev)), impl.ErrRange)
		wantQueueFault(t, name+", behind twins", queue(3, item(1, 8), item(1, 9), item(3, rev)), impl.ErrRange)
	}
	wantQueueFault(t, "the least Rev", queue(1, item(1, 1)), impl.OK)
	wantQueueFault(t, "the greatest Rev", queue(1, item(1, impl.MaxRev)), impl.OK)
	wantQueueFault(t, "both of them", queue(2, item(1, 1), item(2, impl.MaxRev)), impl.OK)
}

func TestP7QueueFaultFormOfRevs(t *testing.T) {
	full := queue(8, rising(8, 10)...)
	for at := 1; at < 8; at++ {
		last := full.Items[at-1].Rev
		for _, rev := range []int64{last, last - 1, 1} {
			name := "the Rev " + strconv.FormatInt(rev, 10) + " at " + strconv.Itoa(at)
			wantQueueFault(t, name, turnedItem(full, at, func(i *impl.Item) { i.Rev = rev }), impl.ErrForm)
			wantQueueFault(t, name+", with a mark", marking(turnedItem(full, at, func(i *impl.Item) { i.Rev = rev })), impl.ErrForm)
		}
		wantQueueFault(t, "one above at "+strconv.Itoa(at), turnedItem(full, at, func(i *impl.Item) { i.Rev = last + 1 }), impl.OK)
		wantQueueFault(t, "a high one ahead of "+strconv.Itoa(at), turnedItem(full, at-1, func(i *impl.Item) { i.Rev = impl.MaxRev }), impl.ErrForm)
	}
	fallen := cloneQueue(full)
	slices.Reverse(fallen.Items)
	wantQueueFault(t, "all fall", fallen, impl.ErrForm)
	wantQueueFault(t, "two that are the same stand apart", queue(3, item(1, 5), item(2, 7), item(3, 5)), impl.ErrForm)
	wantQueueFault(t, "ahead of twins that fall", queue(2, item(1, 2), item(1, 1)), impl.ErrForm)
	wantQueueFault(t, "ahead of twins of the same Rev", queue(2, item(1, 2), item(1, 2)), impl.ErrForm)
	wantQueueFault(t, "ahead of twins that stand ahead", queue(4, item(1, 1), item(1, 2), item(2, 4), item(3, 3)), impl.ErrForm)
}

func TestP7QueueFaultStateOfTwins(t *testing.T) {
	full := queue(8, rising(8, 10)...)
	for i := range 8 {
		for j := range i {
			twins := turnedItem(full, i, func(x *impl.Item) { x.Key = full.Items[j].Key })
			name := "twins at " + strconv.Itoa(j) + " and " + strconv.Itoa(i)
			wantQueueFault(t, name, twins, impl.ErrState)
			wantQueueFault(t, name+", with a mark", marking(twins), impl.ErrState)
		}
	}
	wantQueueFault(t, "three of one Key", queue(3, item(1, 1), item(1, 2), item(1, 3)), impl.ErrState)
	wantQueueFault(t, "the Key of nothing", queue(2, impl.Item{Rev: 1}, impl.Item{Rev: 2}), impl.ErrState)
	for _, n := range []int64{-1, 1, 1 << 32, math.MinInt64, math.MaxInt64} {
		keys := []impl.Key{{}, {Type: n}, {Id: n}, {Adv: n}, {Type: n, Id: n}, {Type: n, Adv: n}, {Id: n, Adv: n}, {Type: n, Id: n, Adv: n}}
		q := queue(8)
		for i, k := range keys {
			q.Items = append(q.Items, impl.Item{Key: k, Rev: int64(i) + 1})
		}
		wantQueueFault(t, "Keys that differ in some parts", q, impl.OK)
	}
}

func TestP7NewQueue(t *testing.T) {
	for size := int64(1); size <= impl.MaxCap; size++ {
		wantPushed(t, "a size", impl.NewQueue(size), impl.Queue{Cap: size})
		wantQueueFault(t, "a new one", impl.NewQueue(size).Queue, impl.OK)
		wantQueueCode(t, "a new one has none", impl.PopItem(impl.NewQueue(size).Queue), impl.ErrNone)
	}
	for _, size := range []int64{0, -1, -8, impl.MaxCap + 1, impl.MaxCap + 2, 1 << 32, math.MinInt64, math.MaxInt64} {
		wantQueueCode(t, "size "+strconv.FormatInt(size, 10), impl.NewQueue(size), impl.ErrRange)
	}
}

func TestP7PushIntoAnEmptyQueue(t *testing.T) {
	for size := int64(1); size <= impl.MaxCap; size++ {
		for _, rev := range []int64{1, 2, 50, impl.MaxRev - 1, impl.MaxRev} {
			i := item(3, rev)
			wantPushed(t, "into an empty one", impl.PushItem(queue(size), i), queue(size, i))
			wantPushed(t, "into an empty one with a mark", impl.PushItem(marking(queue(size)), i), marking(queue(size, i)))
		}
	}
	for _, n := range oddNumbers() {
		for _, k := range []impl.Key{{}, {Type: n}, {Id: n}, {Adv: n}, {Type: n, Id: n, Adv: n}} {
			i := impl.Item{Key: k, Rev: 4}
			wantPushed(t, "any Key", impl.PushItem(queue(1), i), queue(1, i))
		}
	}
}

func TestP7PushIntoAQueueWithRoom(t *testing.T) {
	a, b, c := item(5, 1), item(4, 2), item(6, 9)
	wantPushed(t, "behind one", impl.PushItem(queue(2, a), b), queue(2, a, b))
	wantPushed(t, "behind two", impl.PushItem(queue(3, a, b), c), queue(3, a, b, c))
	wantPushed(t, "behind two, with a mark", impl.PushItem(marking(queue(3, a, b)), c), marking(queue(3, a, b, c)))
	for _, q := range queues() {
		if n := len(q.Items); int64(n) == q.Cap || n > 0 && q.Items[n-1].Rev == impl.MaxRev {
			continue
		}
		i := item(1, impl.MaxRev)
		want := cloneQueue(q)
		want.Items = append(want.Items, i)
		wantPushed(t, queueName(q), impl.PushItem(q, i), want)
	}
}

func TestP7PushOfAKeyThatIsThere(t *testing.T) {
	a, b, c := item(5, 1), item(4, 2), item(6, 3)
	// The same in a queue that is full and in one with room, with a mark and without.
	for _, size := range []int64{3, 4, 8} {
		for _, mark := range []bool{false, true} {
			all := func(list ...impl.Item) impl.Queue { return impl.Queue{Cap: size, Marks: mark, Items: list} }
			for _, rev := range []int64{4, 5, 77, impl.MaxRev} {
				wantPushed(t, "at the start", impl.PushItem(all(a, b, c), item(5, rev)), all(b, c, item(5, rev)))
				wantPushed(t, "between others", impl.PushItem(all(a, b, c), item(4, rev)), all(a, c, item(4, rev)))
				wantPushed(t, "at the end", impl.PushItem(all(a, b, c), item(6, rev)), all(a, b, item(6, rev)))
			}
		}
	}
}

func TestP7PushOfTheSameKeyNeedsNoRoom(t *testing.T) {
	wantPushed(t, "the only one", impl.PushItem(queue(1, item(1, 1)), item(1, 2)), queue(1, item(1, 2)))
	wantPushed(t, "the only one, with a mark", impl.PushItem(marking(queue(1, item(1, 1))), item(1, 2)), marking(queue(1, item(1, 2))))
	for size := int64(1); size <= impl.MaxCap; size++ {
		full := queue(size, rising(size, 10)...)
		for at, x := range full.Items {
			i := impl.Item{Key: x.Key, Rev: 99}
			want := queue(size, append(slices.Delete(slices.Clone(full.Items), at, at+1), i)...)
			name := queueName(full) + ", the Key at " + strconv.Itoa(at)
			wantPushed(t, name, impl.PushItem(full, i), want)
			wantPushed(t, name+", with a mark", impl.PushItem(marking(full), i), marking(want))
		}
	}
}

func TestP7PushIntoAFullQueueOfOtherKeys(t *testing.T) {
	wantPushed(t, "the example", impl.PushItem(queue(1, item(1, 1)), item(2, 2)), marking(queue(1, item(2, 2))))
	for size := int64(1); size <= impl.MaxCap; size++ {
		full := queue(size, rising(size, 10)...)
		// The last Rev of full may be that of its first item.
		for _, i := range []impl.Item{item(1, 39), item(30, 40), item(2, impl.MaxRev), {Key: impl.Key{Type: 1, Id: 20}, Rev: 41}, {Key: impl.Key{Type: 2, Id: 20, Adv: 7}, Rev: 41}, {Key: impl.Key{Type: 1, Id: 21, Adv: 7}, Rev: 41}} {
			want := marking(queue(size, i))
			wantPushed(t, queueName(full), impl.PushItem(full, i), want)
			wantPushed(t, queueName(full)+", with a mark ahead", impl.PushItem(marking(full), i), want)
		}
	}
}

func TestP7PushGoesOnBehindWhatWasLeftOut(t *testing.T) {
	q := impl.PushItem(queue(2, item(1, 1), item(2, 2)), item(3, 3)).Queue
	wantPushed(t, "one that was left out", impl.PushItem(q, item(1, 4)), marking(queue(2, item(3, 3), item(1, 4))))
	wantPushed(t, "the Rev of what was left out", impl.PushAll(q, []impl.Item{item(1, 4), item(2, 5)}), marking(queue(2, item(2, 5))))
	wantQueueCode(t, "a Rev below", impl.PushItem(q, item(1, 2)), impl.ErrForm)
	taken := impl.DrainQueue(q)
	wantPushed(t, "a drained one keeps no mark", impl.PushItem(taken.Queue, item(4, 4)), queue(2, item(4, 4)))
	// A queue keeps nothing of what went: any Rev may come into an empty one.
	wantPushed(t, "a drained one keeps no Rev", impl.PushItem(taken.Queue, item(3, 1)), queue(2, item(3, 1)))
}

func TestP7PushItemRevThatIsNone(t *testing.T) {
	for _, rev := range noRevs() {
		name := "Rev " + strconv.FormatInt(rev, 10)
		for _, q := range queues() {
			wantQueueCode(t, name+" of a new Key, "+queueName(q), impl.PushItem(q, item(1, rev)), impl.ErrRange)
			wantQueueCode(t, name+" of a Key that is there, "+queueName(q), impl.PushItem(q, item(20, rev)), impl.ErrRange)
		}
	}
}

func TestP7PushItemRevThatIsNotAboveTheLast(t *testing.T) {
	for _, q := range queues() {
		n := len(q.Items)
		if n == 0 {
			continue
		}
		for _, rev := range []int64{q.Items[n-1].Rev, max(1, q.Items[n-1].Rev-1), q.Items[0].Rev, 1} {
			name := queueName(q) + ", Rev " + strconv.FormatInt(rev, 10)
			wantQueueCode(t, name+" of a new Key", impl.PushItem(q, item(1, rev)), impl.ErrForm)
			for _, x := range q.Items {
				wantQueueCode(t, name+" of a Key that is there", impl.PushItem(q, impl.Item{Key: x.Key, Rev: rev}), impl.ErrForm)
			}
		}
	}
	q := queue(4, item(1, 5), item(2, 9))
	wantQueueCode(t, "between two", impl.PushItem(q, item(3, 7)), impl.ErrForm)
	wantQueueCode(t, "just the last one again", impl.PushItem(q, item(2, 9)), impl.ErrForm)
	wantPushed(t, "one above", impl.PushItem(q, item(3, 10)), queue(4, item(1, 5), item(2, 9), item(3, 10)))
	// The last one counts even if it is the one that would be gone.
	wantQueueCode(t, "the only one's Rev, of its Key", impl.PushItem(queue(1, item(2, 9)), item(2, 9)), impl.ErrForm)
	wantQueueCode(t, "below the only one's Rev, of its Key", impl.PushItem(queue(1, item(2, 9)), item(2, 8)), impl.ErrForm)
}

func TestP7PopItem(t *testing.T) {
	a, b := item(5, 3), item(4, 4)
	both := marking(queue(2, a, b))
	wantQueue(t, "a mark and items", impl.PopItem(both), impl.QueueResult{Queue: queue(2, a, b), Mark: true})
	wantQueue(t, "a mark alone", impl.PopItem(marking(queue(2))), impl.QueueResult{Queue: queue(2), Mark: true})
	wantQueue(t, "items alone", impl.PopItem(queue(2, a, b)), impl.QueueResult{Queue: queue(2, b), Items: []impl.Item{a}})
	wantQueue(t, "the last one", impl.PopItem(queue(2, b)), impl.QueueResult{Queue: queue(2), Items: []impl.Item{b}})
	wantQueueCode(t, "an empty one", impl.PopItem(queue(2)), impl.ErrNone)
	wantQueueCode(t, "a list that is empty, and not nil", impl.PopItem(impl.Queue{Cap: 1, Items: []impl.Item{}}), impl.ErrNone)
	for _, q := range queues() {
		wantQueue(t, queueName(q), impl.PopItem(q), plainPop(q))
	}
}

func TestP7WhatIsPoppedMakesRoom(t *testing.T) {
	full := queue(3, rising(3, 1)...)
	popped := impl.PopItem(full).Queue
	wantPushed(t, "into the room", impl.PushItem(popped, item(1, 50)), queue(3, full.Items[1], full.Items[2], item(1, 50)))
	wantPushed(t, "of the Key that went", impl.PushItem(popped, item(20, 50)), queue(3, full.Items[1], full.Items[2], item(20, 50)))
	// A mark has no place among the items: to pop it makes no room.
	told := impl.PopItem(marking(full)).Queue
	wantPushed(t, "behind the mark alone", impl.PushItem(told, item(1, 50)), marking(queue(3, item(1, 50))))
}

func TestP7PushAllOfNone(t *testing.T) {
	for _, q := range queues() {
		wantPushed(t, queueName(q), impl.PushAll(q, nil), q)
		wantPushed(t, queueName(q)+", not nil", impl.PushAll(q, []impl.Item{}), q)
	}
}

// manyItems has n items of this many Keys by turns, with Revs from 1 on.
func manyItems(n int64, keys int64) []impl.Item {
	var list []impl.Item
	for i := range n {
		list = append(list, item(i%keys, i+1))
	}
	return list
}

func TestP7PushAllUpToAHundred(t *testing.T) {
	one, all := manyItems(100, 1), manyItems(100, 100)
	wantPushed(t, "a hundred of one Key", impl.PushAll(queue(1), one), queue(1, item(0, 100)))
	wantPushed(t, "a hundred Keys, of Cap 1", impl.PushAll(queue(1), all), marking(queue(1, all[99])))
	// Into 8 places come 8; the next one leaves these out: the last that does so is the one at 96.
	wantPushed(t, "a hundred Keys, of Cap 8", impl.PushAll(queue(8), all), marking(queue(8, all[96:]...)))
	wantPushed(t, "a hundred of 8 Keys", impl.PushAll(queue(8), manyItems(100, 8)), queue(8, manyItems(100, 8)[92:]...))
	wantPushed(t, "a hundred of 3 Keys", impl.PushAll(queue(3), manyItems(100, 3)), queue(3, manyItems(100, 3)[97:]...))
	for _, n := range []int64{101, 102, 1000} {
		name := strconv.FormatInt(n, 10) + " items"
		for _, q := range []impl.Queue{queue(1), queue(8), marking(queue(8)), queue(3, rising(3, 1)...), queue(2, item(1, impl.MaxRev))} {
			wantQueueCode(t, name, impl.PushAll(q, manyItems(n, 100)), impl.ErrMany)
			wantQueueCode(t, name+" of one Key", impl.PushAll(q, manyItems(n, 1)), impl.ErrMany)
			wantQueueCode(t, name+", ahead of their codes", impl.PushAll(q, make([]impl.Item, n)), impl.ErrMany)
		}
	}
	hundred := manyItems(100, 100)
	hundred[99].Rev = 0
	wantQueueCode(t, "a hundred, of which the last one has a code", impl.PushAll(queue(8), hundred), impl.ErrRange)
	hundred[0].Rev = -1
	wantQueueCode(t, "a hundred, of which the first one has a code", impl.PushAll(queue(8), hundred), impl.ErrRange)
}

func TestP7PushAllOfAnItemWithACode(t *testing.T) {
	list := rising(7, 30)
	for _, q := range []impl.Queue{queue(1), queue(8), marking(queue(3)), queue(4, rising(4, 10)...), queue(8, item(9, 29))} {
		wantPushed(t, queueName(q)+", all are sound", impl.PushAll(q, list), plainPushAll(q, list).Queue)
		for at := range list {
			name := queueName(q) + ", at " + strconv.Itoa(at)
			for _, rev := range noRevs() {
				bad := slices.Clone(list)
				bad[at].Rev = rev
				wantQueueCode(t, name+", no Rev", impl.PushAll(q, bad), impl.ErrRange)
			}
			if at == 0 {
				continue
			}
			bad := slices.Clone(list)
			for _, rev := range []int64{1, list[at-1].Rev - 1, list[at-1].Rev} {
				bad[at].Rev = rev
				wantQueueCode(t, name+", not above the one ahead", impl.PushAll(q, bad), impl.ErrForm)
				bad[at].Key = bad[at-1].Key
				wantQueueCode(t, name+", not above the one ahead of its Key", impl.PushAll(q, bad), impl.ErrForm)
				bad[at].Key = list[at].Key
			}
		}
	}
	wantQueueCode(t, "not above what is there", impl.PushAll(queue(8, item(9, 30)), list), impl.ErrForm)
	wantQueueCode(t, "below what is there", impl.PushAll(queue(8, item(9, impl.MaxRev)), list), impl.ErrForm)
}

func TestP7PushAllAsksOneByOne(t *testing.T) {
	q := queue(4, item(9, 20))
	form, none := item(1, 20), item(2, 0)
	wantQueueCode(t, "not above, then no Rev", impl.PushAll(q, []impl.Item{form, none}), impl.ErrForm)
	wantQueueCode(t, "no Rev, then not above", impl.PushAll(q, []impl.Item{none, form}), impl.ErrRange)
	wantQueueCode(t, "a sound one, not above, no Rev", impl.PushAll(q, []impl.Item{item(1, 21), item(2, 21), none}), impl.ErrForm)
	wantQueueCode(t, "a sound one, no Rev, not above", impl.PushAll(q, []impl.Item{item(1, 21), none, item(2, 21)}), impl.ErrRange)
	wantQueueCode(t, "too high, then not above", impl.PushAll(q, []impl.Item{item(1, impl.MaxRev+1), form}), impl.ErrRange)
}

func TestP7DrainQueue(t *testing.T) {
	a, b := item(5, 3), item(4, 4)
	wantQueue(t, "a mark and items", impl.DrainQueue(marking(queue(2, a, b))), impl.QueueResult{Queue: queue(2), Mark: true, Items: []impl.Item{a, b}})
	wantQueue(t, "a mark alone", impl.DrainQueue(marking(queue(2))), impl.QueueResult{Queue: queue(2), Mark: true})
	wantQueue(t, "items alone", impl.DrainQueue(queue(3, a, b)), impl.QueueResult{Queue: queue(3), Items: []impl.Item{a, b}})
	wantQueue(t, "an empty one", impl.DrainQueue(queue(7)), impl.QueueResult{Queue: queue(7)})
	for _, q := range queues() {
		r := impl.DrainQueue(q)
		wantQueue(t, queueName(q), r, plainDrain(q))
		wantQueue(t, queueName(q)+", twice", impl.DrainQueue(r.Queue), impl.QueueResult{Queue: queue(q.Cap)})
		wantQueueCode(t, queueName(q)+", popped then", impl.PopItem(r.Queue), impl.ErrNone)
	}
}

func TestP7WhoPopsTakesWhatWhoDrainsTakes(t *testing.T) {
	for _, q := range queues() {
		all := impl.DrainQueue(q)
		ahead, marks, items := popAll(t, q)
		if ahead != marks || marks != countMark(all.Mark) || !slices.Equal(items, all.Items) {
			t.Errorf("%s: popped are %d marks, %d of them ahead, and %v, drained %v", queueName(q), marks, ahead, items, all)
		}
	}
}

func TestP7WhoPopsSomeAndDrainsTheRestTakesTheSame(t *testing.T) {
	for _, q := range queues() {
		all := impl.DrainQueue(q)
		rest, marks, items := q, 0, []impl.Item{}
		for range len(q.Items) + countMark(q.Marks) {
			popped := impl.PopItem(rest)
			rest, marks, items = popped.Queue, marks+countMark(popped.Mark), append(items, popped.Items...)
			last := impl.DrainQueue(rest)
			if marks+countMark(last.Mark) != countMark(all.Mark) || !slices.Equal(slices.Concat(items, last.Items), all.Items) || !isQueue(last.Queue, all.Queue) {
				t.Errorf("%s: %d marks and %v are popped, then %v is drained, want %v", queueName(q), marks, items, last, all)
			}
		}
	}
}

// randomItems has items of a few Keys, whose Revs rise from above rev on.
func randomItems(c *chance, n int64, keys int64, rev int64) []impl.Item {
	var list []impl.Item
	for range n {
		rev += 1 + c.below(3)
		list = append(list, item(c.below(keys), rev))
	}
	return list
}

func TestP7PushAllIsPushItemOneByOne(t *testing.T) {
	for seed := range chance(200) {
		c := seed
		q := impl.NewQueue(1 + c.below(impl.MaxCap)).Queue
		list := randomItems(&c, c.below(30), 1+c.below(10), 0)
		step := q
		for at, i := range list {
			r := impl.PushItem(step, i)
			wantQueue(t, "one by one", r, plainPush(step, i))
			step = r.Queue
			wantPushed(t, "all up to "+strconv.Itoa(at), impl.PushAll(q, list[:at+1]), step)
			wantPushed(t, "the rest of it", impl.PushAll(step, list[at+1:]), impl.PushAll(q, list).Queue)
		}
	}
}

func TestP7AnyTurnsAreThoseOfAPlainList(t *testing.T) {
	for seed := range chance(60) {
		c := seed
		q := impl.NewQueue(1 + c.below(impl.MaxCap)).Queue
		keys, rev := 1+c.below(12), int64(0)
		for range 200 {
			var got, want impl.QueueResult
			switch c.below(10) {
			case 0:
				got, want = impl.DrainQueue(q), plainDrain(q)
			case 1, 2:
				got, want = impl.PopItem(q), plainPop(q)
			case 3:
				list := randomItems(&c, c.below(5), keys, rev)
				got, want = impl.PushAll(q, list), plainPushAll(q, list)
				rev += 3 * int64(len(list))
			default:
				// Now and then it is not above the last one, or no Rev.
				i := item(c.below(keys), max(0, rev+c.below(4)-1))
				got, want = impl.PushItem(q, i), plainPush(q, i)
				rev = max(rev, i.Rev)
			}
			wantQueue(t, queueName(q), got, want)
			if got.Code == impl.OK {
				q = got.Queue
			}
			if code := impl.QueueFault(q); code != impl.OK {
				t.Fatalf("%s: it has the fault %d", queueName(q), code)
			}
		}
	}
}

// lastOfEach are those of list behind which none of their Key comes.
func lastOfEach(list []impl.Item) []impl.Item {
	var last []impl.Item
	for at, i := range list {
		if !slices.ContainsFunc(list[at+1:], func(x impl.Item) bool { return x.Key == i.Key }) {
			last = append(last, i)
		}
	}
	return last
}

func TestP7OfEachKeyTheLastOneComesOrItIsMarked(t *testing.T) {
	for seed := range chance(300) {
		c := seed
		size, keys := 1+c.below(impl.MaxCap), 1+c.below(10)
		list := randomItems(&c, c.below(40), keys, 0)
		got := impl.DrainQueue(impl.PushAll(queue(size), list).Queue)
		want := lastOfEach(list)
		if !got.Mark && !slices.Equal(got.Items, want) {
			t.Errorf("of %v come %v, want %v", list, got.Items, want)
		}
		if got.Mark && (len(got.Items) == 0 || !slices.Equal(got.Items, want[len(want)-len(got.Items):])) {
			t.Errorf("of %v come %v, want the last ones of %v", list, got.Items, want)
		}
		if got.Mark && keys <= size {
			t.Errorf("of %v nothing had to be left out", list)
		}
		if !got.Mark && int64(len(want)) > size {
			t.Errorf("of %v something was left out without a mark", list)
		}
	}
}

func TestP7WhoTakesNowAndThenMissesNothingThatIsNotMarked(t *testing.T) {
	for seed := range chance(300) {
		c := seed
		keys := 1 + c.below(9)
		q := impl.NewQueue(1 + c.below(impl.MaxCap)).Queue
		// What counts is all that was put in, or what stands behind the last mark that was taken.
		var put, counts, taken []impl.Item
		for range 60 {
			i := item(c.below(keys), int64(len(put))+1)
			q, put, counts = impl.PushItem(q, i).Queue, append(put, i), append(counts, i)
			if c.below(3) > 0 {
				continue
			}
			r := impl.PopItem(q)
			if c.below(4) == 0 {
				r = impl.DrainQueue(q)
			}
			if r.Mark {
				counts = slices.Concat(r.Items, r.Queue.Items)
			}
			taken, q = append(taken, r.Items...), r.Queue
		}
		for at, i := range taken {
			if put[i.Rev-1] != i || at > 0 && taken[at-1].Rev >= i.Rev {
				t.Errorf("%v was not put in, or comes out of order: %v", i, taken)
			}
		}
		for _, i := range lastOfEach(counts) {
			if !q.Marks && !slices.Contains(taken, i) && !slices.Contains(q.Items, i) {
				t.Errorf("%v does not come, and there is no mark", i)
			}
		}
	}
}

func TestP7SameQueues(t *testing.T) {
	for _, q := range append(queues(), oddQueues()...) {
		if !impl.SameQueues(q, q) || !impl.SameQueues(q, cloneQueue(q)) {
			t.Errorf("%s: not the same as itself", queueName(q))
		}
	}
	if !impl.SameQueues(impl.Queue{Cap: 1}, impl.Queue{Cap: 1, Items: []impl.Item{}}) || !impl.SameQueues(impl.Queue{Items: []impl.Item{}}, impl.Queue{}) {
		t.Error("an empty list and nil are not the same")
	}
}

func TestP7SameQueuesOfOneFieldThatDiffers(t *testing.T) {
	turns := []func(i *impl.Item){
		func(i *impl.Item) { i.Key.Type++ }, func(i *impl.Item) { i.Key.Id++ }, func(i *impl.Item) { i.Key.Adv++ }, func(i *impl.Item) { i.Rev++ },
		func(i *impl.Item) { i.Key.Type = -i.Key.Type }, func(i *impl.Item) { i.Rev = -i.Rev },
	}
	// Most of these have faults: of the Cap, too many items, Revs that are none or fall, twins.
	odd := []impl.Queue{
		queue(4, rising(4, 3)...), queue(0, rising(2, 3)...), queue(-1), queue(2), queue(1, rising(9, 3)...), queue(math.MaxInt64, item(1, 1), item(1, 1)),
		queue(3, item(1, -5), item(2, math.MinInt64+1)), queue(3, item(1, 9), item(2, 8)), queue(2, rising(500, 1)...),
	}
	for _, q := range odd {
		for at := range q.Items {
			for i, turn := range turns {
				if other := turnedItem(q, at, turn); impl.SameQueues(q, other) || impl.SameQueues(other, q) {
					t.Errorf("%s: the same after turn %d at %d", queueName(q), i, at)
				}
			}
			shorter := cloneQueue(q)
			shorter.Items = slices.Delete(shorter.Items, at, at+1)
			if impl.SameQueues(q, shorter) || impl.SameQueues(shorter, q) {
				t.Errorf("%s: the same without %d", queueName(q), at)
			}
		}
		wider := q
		wider.Cap--
		for _, other := range []impl.Queue{marking(q), wider} {
			if impl.SameQueues(q, other) || impl.SameQueues(other, q) {
				t.Errorf("%s: the same as %s", queueName(q), queueName(other))
			}
		}
	}
	if impl.SameQueues(queue(3, item(1, 9), item(2, 8)), queue(3, item(2, 8), item(1, 9))) {
		t.Error("the same in another order")
	}
}

// oddQueues are queues of any numbers and lists, most of them with faults.
func oddQueues() []impl.Queue {
	list := []impl.Queue{{}, {Marks: true}, {Items: []impl.Item{{}}}, queue(8, make([]impl.Item, 8)...), queue(8, make([]impl.Item, 100000)...), queue(math.MaxInt64, rising(200, 1)...)}
	for _, n := range oddNumbers() {
		list = append(list, queue(n), marking(queue(n)), queue(n, item(n, n)), queue(3, item(n, n)), queue(3, item(n, 1), item(1, n)), marking(queue(3, item(n, n), item(n, 7))))
		list = append(list, queue(n, rising(5, 1)...), queue(2, impl.Item{Key: impl.Key{Type: n, Id: n, Adv: n}, Rev: 5}, item(n, n)))
	}
	return list
}

func TestP1EveryFunctionOfTheQueueAnswers(t *testing.T) {
	for _, q := range oddQueues() {
		code := impl.QueueFault(q)
		if code != impl.OK && code != impl.ErrForm && code != impl.ErrMany && code != impl.ErrRange && code != impl.ErrState {
			t.Errorf("%s: fault %d", queueName(q), code)
		}
		wantQueueFault(t, queueName(q), q, code)
		if code == impl.OK {
			wantQueue(t, queueName(q), impl.PopItem(q), plainPop(q))
			wantQueue(t, queueName(q), impl.DrainQueue(q), plainDrain(q))
		}
	}
	q := queue(3, rising(3, 50)...)
	for _, n := range oddNumbers() {
		if n < 1 || n > impl.MaxCap {
			wantQueueCode(t, "no size", impl.NewQueue(n), impl.ErrRange)
		} else {
			wantPushed(t, "a size", impl.NewQueue(n), queue(n))
		}
		for _, i := range []impl.Item{item(n, n), item(20, n), {Key: impl.Key{Type: n, Id: n, Adv: n}, Rev: 99}, {Key: impl.Key{Type: n}, Rev: n}} {
			wantQueue(t, "an odd item", impl.PushItem(q, i), plainPush(q, i))
			wantQueue(t, "odd items", impl.PushAll(q, []impl.Item{i, item(4, 100), i}), plainPushAll(q, []impl.Item{i, item(4, 100), i}))
		}
	}
	wantQueueCode(t, "a huge list", impl.PushAll(q, make([]impl.Item, 1000000)), impl.ErrMany)
}

// queueTurns are all functions of the chapter that answer a queue of a queue, with codes and without.
func queueTurns() []func(q impl.Queue) impl.QueueResult {
	turns := []func(q impl.Queue) impl.QueueResult{impl.PopItem, impl.DrainQueue}
	for _, i := range []impl.Item{item(20, impl.MaxRev), item(19, impl.MaxRev-1), item(1, impl.MaxRev), item(1, 0), item(1, 1), {}} {
		turns = append(turns, func(q impl.Queue) impl.QueueResult { return impl.PushItem(q, i) })
	}
	for _, list := range [][]impl.Item{nil, rising(3, 5000), manyItems(100, 3), rising(13, 5000), manyItems(101, 3), {item(1, 5000), item(2, 5000)}} {
		turns = append(turns, func(q impl.Queue) impl.QueueResult { return impl.PushAll(q, list) })
	}
	return turns
}

// roomyItems have room behind their end, in which something stands.
func roomyItems(list []impl.Item) []impl.Item {
	return append(slices.Clone(list), item(-91, -91), item(-92, -92))[:len(list)]
}

func roomyQueue(q impl.Queue) impl.Queue {
	q.Items = roomyItems(q.Items)
	return q
}

// wholeItems are as long as the list is with what was put behind it.
func wholeItems(list []impl.Item) []impl.Item {
	return slices.Clone(list[:len(list)+2])
}

// spoilItems turns all that a list has, and all that there is room for behind it.
func spoilItems(list []impl.Item) {
	list = list[:cap(list)]
	for at := range list {
		list[at] = item(-66, -66)
	}
}

func cloneQueueResult(r impl.QueueResult) impl.QueueResult {
	return impl.QueueResult{Code: r.Code, Queue: cloneQueue(r.Queue), Mark: r.Mark, Items: slices.Clone(r.Items)}
}

func TestP1QueuesAreNotChanged(t *testing.T) {
	faults := []impl.Queue{
		queue(0, rising(3, 1)...), queue(2, rising(3, 1)...), queue(3, item(1, 1), item(2, 0)), queue(3, item(1, 2), item(2, 1)), marking(queue(3, item(1, 1), item(1, 2))),
	}
	for _, q := range append(queues(), faults...) {
		given := roomyQueue(q)
		before := wholeItems(given.Items)
		for _, turn := range queueTurns() {
			turn(given)
		}
		impl.QueueFault(given)
		impl.SameQueues(given, q)
		impl.SameQueues(q, given)
		if !isQueue(given, q) || !slices.Equal(wholeItems(given.Items), before) {
			t.Errorf("%s: it was changed", queueName(q))
		}
	}
}

func TestP1QueuesAreNewMemory(t *testing.T) {
	for _, q := range queues() {
		for _, turn := range queueTurns() {
			given := roomyQueue(q)
			before := wholeItems(given.Items)
			first, second := turn(given), turn(given)
			want := cloneQueueResult(second)
			spoilItems(first.Queue.Items)
			spoilItems(first.Items)
			if !slices.Equal(wholeItems(given.Items), before) {
				t.Errorf("%s: an answer shares memory with its argument", queueName(q))
			}
			spoilItems(given.Items)
			if !isQueueResult(second, want) {
				t.Errorf("%s: an answer hangs on its argument, or on another answer", queueName(q))
			}
		}
	}
}

func TestP1TheListsOfATakingShareNoMemory(t *testing.T) {
	for _, q := range queues() {
		for _, turn := range []func(q impl.Queue) impl.QueueResult{impl.PopItem, impl.DrainQueue} {
			first, second := turn(q), turn(q)
			want := cloneQueueResult(first)
			spoilItems(first.Items)
			spoilItems(second.Queue.Items)
			if !isQueue(first.Queue, want.Queue) || !slices.Equal(second.Items, want.Items) {
				t.Errorf("%s: what is taken shares memory with what is left", queueName(q))
			}
			// What is put behind one of them does not come into the other one.
			third := turn(q)
			_ = append(third.Items, rising(9, 700)...)
			_ = append(third.Queue.Items, rising(9, 800)...)
			wantQueue(t, queueName(q), third, want)
		}
	}
}

func TestP1WhatIsPushedIsNotChangedNorKept(t *testing.T) {
	lists := [][]impl.Item{nil, {item(1, 5000)}, {item(20, 5000)}, rising(3, 5000), rising(8, 5000), rising(13, 5000), manyItems(100, 3), manyItems(100, 9), manyItems(101, 1), {item(1, 5000), item(2, 0)}}
	for _, q := range []impl.Queue{queue(1), queue(8), marking(queue(3)), queue(3, rising(3, 1)...), queue(8, rising(3, 1)...)} {
		for _, list := range lists {
			given := roomyItems(list)
			before := wholeItems(given)
			first, second := impl.PushAll(q, given), impl.PushAll(q, given)
			want := cloneQueueResult(second)
			spoilItems(first.Queue.Items)
			if !slices.Equal(given, list) || !slices.Equal(wholeItems(given), before) {
				t.Errorf("%s: what is pushed is changed, or shared", queueName(q))
			}
			spoilItems(given)
			if !isQueueResult(second, want) {
				t.Errorf("%s: the answer hangs on what was pushed", queueName(q))
			}
		}
	}
}

func TestP1QueuesHangOnArgumentsAlone(t *testing.T) {
	others := []impl.Queue{{}, marking(queue(8, rising(8, 1)...)), queue(1), queue(3, item(1, 1), item(1, 2))}
	for i, q := range queues() {
		for _, turn := range queueTurns() {
			first := turn(q)
			turn(others[i%len(others)])
			wantQueue(t, queueName(q)+", once more", turn(roomyQueue(q)), first)
		}
	}
	for size := int64(1); size <= impl.MaxCap; size++ {
		used := impl.NewQueue(size).Queue
		impl.PushAll(used, rising(12, 1))
		wantPushed(t, "a new one once more", impl.NewQueue(size), queue(size))
	}
}
