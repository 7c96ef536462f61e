package tests

import (
	"cmp"
	"math"
	"slices"
	"strconv"
	"testing"

	"loop.example/g00732/impl"
)

const wheelSlots = 24

func timer(id int64, due int64) impl.Timer {
	return impl.Timer{Key: impl.Key{Type: 1, Id: id, Adv: 7}, Due: due}
}

// plainPlace is the place by its bits, of which each level has three.
func plainPlace(now int64, due int64) int64 {
	switch {
	case now>>3 == due>>3:
		return due & 7
	case now>>6 == due>>6:
		return 8 + due>>3&7
	}
	return 16 + due>>6&7
}

// plainWheel has the timers of list at their places, each one behind those ahead of it in list.
func plainWheel(now int64, list ...impl.Timer) impl.Wheel {
	w := impl.Wheel{Now: now, Slots: make([][]impl.Timer, wheelSlots)}
	for _, x := range list {
		at := plainPlace(now, x.Due)
		w.Slots[at] = append(w.Slots[at], x)
	}
	return w
}

// put is w with the timers in this slot, whether it is their place or not.
func put(w impl.Wheel, slot int64, list ...impl.Timer) impl.Wheel {
	w = cloneWheel(w)
	w.Slots[slot] = append(w.Slots[slot], list...)
	return w
}

func cloneWheel(w impl.Wheel) impl.Wheel {
	w.Slots = slices.Clone(w.Slots)
	for i, slot := range w.Slots {
		w.Slots[i] = slices.Clone(slot)
	}
	return w
}

// isWheel asks field by field, so that a SameWheels that overlooks one does not hide it.
func isWheel(a impl.Wheel, b impl.Wheel) bool {
	if a.Now != b.Now || len(a.Slots) != len(b.Slots) {
		return false
	}
	for i := range a.Slots {
		if !slices.Equal(a.Slots[i], b.Slots[i]) {
			return false
		}
	}
	return true
}

func wantWheel(t *testing.T, what string, got impl.WheelResult, want impl.Wheel, due ...impl.Timer) {
	t.Helper()
	if got.Code != impl.OK || !isWheel(got.Wheel, want) {
		t.Errorf("%s: got code %d, wheel %v, want %v", what, got.Code, got.Wheel, want)
	}
	if !slices.Equal(got.Due, due) {
		t.Errorf("%s: due are %v, want %v", what, got.Due, due)
	}
}

func wantWheelCode(t *testing.T, what string, got impl.WheelResult, code int64) {
	t.Helper()
	if got.Code != code || !isWheel(got.Wheel, impl.Wheel{}) || len(got.Due) != 0 {
		// Not the wheel itself, which may be a huge one.
		t.Errorf("%s: got code %d, %s, %d due, want code %d and nothing else", what, got.Code, wheelName(got.Wheel), len(got.Due), code)
	}
}

func wantPlace(t *testing.T, now int64, due int64, place int64) {
	t.Helper()
	wantInt(t, strconv.FormatInt(due, 10)+" seen from "+strconv.FormatInt(now, 10), impl.PlaceOf(now, due), impl.IntResult{Value: place})
}

func wantNoPlace(t *testing.T, now int64, due int64) {
	t.Helper()
	wantInt(t, strconv.FormatInt(due, 10)+" seen from "+strconv.FormatInt(now, 10), impl.PlaceOf(now, due), impl.IntResult{Code: impl.ErrRange})
}

// wantWheelFault asks the fault of w of all that tell it, ahead of what else may be wrong.
func wantWheelFault(t *testing.T, what string, w impl.Wheel, code int64) {
	t.Helper()
	if got := impl.WheelFault(w); got != code {
		t.Errorf("%s: WheelFault is %d, want %d", what, got, code)
	}
	if code == impl.OK {
		if got := impl.TimersIn(w); got.Code != impl.OK || !isWheel(got.Wheel, w) {
			t.Errorf("%s: TimersIn tells code %d, %s", what, got.Code, wheelName(got.Wheel))
		}
		return
	}
	wantWheelCode(t, what+", TimersIn", impl.TimersIn(w), code)
	wantWheelCode(t, what+", TickWheel", impl.TickWheel(w), code)
	for _, n := range []int64{w.Now, w.Now + 1, w.Now + 9, math.MinInt64} {
		wantWheelCode(t, what+", AddTimer", impl.AddTimer(w, timer(-77, n)), code)
	}
	for _, id := range []int64{-77, 1} {
		wantWheelCode(t, what+", DropTimer", impl.DropTimer(w, timer(id, 0).Key), code)
	}
	for _, n := range []int64{-1, 0, 1, 1000, 1001, math.MaxInt64} {
		wantWheelCode(t, what+", RunWheel", impl.RunWheel(w, n), code)
	}
}

// spread has n timers that are due at different times, near ones and far ones by turns.
func spread(now int64, n int) []impl.Timer {
	var list []impl.Timer
	for i := range int64(n) {
		list = append(list, timer(i+1, now+1+i*173%impl.MaxDelay))
	}
	return list
}

// crowded has n timers that are due at only a few times, in no order.
func crowded(now int64, n int) []impl.Timer {
	dues := []int64{1, 2, 3, 8, 9, 63, 64, 65, 511}
	var list []impl.Timer
	for i := range int64(n) {
		list = append(list, timer(100-i, now+dues[i*5%int64(len(dues))]))
	}
	return list
}

// nows are at the beginning and at the end of each level, and at both ends of the time.
func nows() []int64 {
	return []int64{
		0, 1, 5, 6, 7, 8, 9, 15, 16, 55, 56, 62, 63, 64, 65, 127, 128, 447, 448, 500, 504, 510, 511, 512, 513,
		575, 576, 1023, 1024, 4095, 4096, 32767, 32768, 500000, 999935, 999936, 999999, impl.MaxTime,
	}
}

// wheels are without a fault, from empty to full ones.
func wheels() []impl.Wheel {
	var list []impl.Wheel
	for _, now := range nows() {
		list = append(list, plainWheel(now), plainWheel(now, timer(1, now+1)), plainWheel(now, timer(1, now+impl.MaxDelay)))
		list = append(list, plainWheel(now, spread(now, 7)...), plainWheel(now, spread(now, impl.MaxTimers)...), plainWheel(now, crowded(now, impl.MaxTimers)...))
	}
	return list
}

// inOrder are the timers of w, slot by slot.
func inOrder(w impl.Wheel) []impl.Timer {
	return slices.Concat(w.Slots...)
}

// dueUpTo are those that are due up to then, by time; those of one time stand in one slot, in order.
func dueUpTo(w impl.Wheel, then int64) []impl.Timer {
	list := slices.DeleteFunc(inOrder(w), func(x impl.Timer) bool { return x.Due > then })
	slices.SortStableFunc(list, func(a impl.Timer, b impl.Timer) int { return cmp.Compare(a.Due, b.Due) })
	return list
}

func leftBehind(w impl.Wheel, then int64) []impl.Timer {
	return slices.DeleteFunc(inOrder(w), func(x impl.Timer) bool { return x.Due <= then })
}

func wheelName(w impl.Wheel) string {
	return strconv.Itoa(len(inOrder(w))) + " timers at " + strconv.FormatInt(w.Now, 10)
}

func TestWheelConstantsHaveTheirNumbers(t *testing.T) {
	got := []int64{impl.Levels, impl.SlotsOn, impl.MaxDelay, impl.MaxTimers, impl.MaxTime}
	if want := []int64{3, 8, 511, 60, 1000000}; !slices.Equal(got, want) {
		t.Errorf("got %v, want %v", got, want)
	}
}

func TestP5PlaceOfEachLevel(t *testing.T) {
	// now, due, place
	known := [][3]int64{
		{5, 7, 7}, {5, 8, 9}, {5, 64, 17},
		{0, 1, 1}, {0, 7, 7}, {0, 8, 9}, {0, 15, 9}, {0, 16, 10}, {0, 63, 15}, {0, 64, 17}, {0, 127, 17}, {0, 128, 18}, {0, 511, 23},
		{1, 511, 23}, {1, 512, 16}, {6, 7, 7}, {8, 9, 1}, {8, 15, 7}, {8, 16, 10}, {8, 63, 15}, {8, 64, 17},
		{56, 57, 1}, {56, 63, 7}, {56, 64, 17}, {64, 65, 1}, {64, 71, 7}, {64, 72, 9}, {64, 127, 15}, {64, 128, 18}, {64, 575, 16},
		{448, 449, 1}, {448, 455, 7}, {448, 456, 9}, {448, 511, 15}, {448, 512, 16}, {448, 959, 22},
		{500, 503, 7}, {500, 504, 15}, {500, 511, 15}, {500, 512, 16}, {500, 1011, 23},
		{512, 513, 1}, {512, 519, 7}, {512, 520, 9}, {512, 575, 15}, {512, 576, 17}, {512, 1023, 23},
	}
	for _, k := range known {
		wantPlace(t, k[0], k[1], k[2])
	}
}

func TestP5PlaceOfWhereNowIsAtTheEndOfALevel(t *testing.T) {
	known := [][3]int64{
		{7, 8, 9}, {7, 15, 9}, {7, 16, 10}, {7, 63, 15}, {7, 64, 17}, {7, 511, 23}, {7, 512, 16}, {7, 518, 16},
		{55, 56, 15}, {55, 63, 15}, {55, 64, 17},
		{63, 64, 17}, {63, 71, 17}, {63, 72, 17}, {63, 127, 17}, {63, 128, 18}, {63, 511, 23}, {63, 512, 16}, {63, 574, 16},
		{511, 512, 16}, {511, 519, 16}, {511, 520, 16}, {511, 575, 16}, {511, 576, 17}, {511, 1022, 23},
		{999999, 1000000, 17}, {999999, 1000510, 16},
		{impl.MaxTime, 1000001, 1}, {impl.MaxTime, 1000007, 7}, {impl.MaxTime, 1000008, 9},
		{impl.MaxTime, 1000063, 15}, {impl.MaxTime, 1000064, 18}, {impl.MaxTime, 1000511, 16},
	}
	for _, k := range known {
		wantPlace(t, k[0], k[1], k[2])
	}
}

func TestP5PlaceOfEachDelay(t *testing.T) {
	var all []int64
	for n := range int64(1100) {
		all = append(all, n, impl.MaxTime-n)
	}
	for _, now := range append(all, nows()...) {
		for due := now + 1; due <= now+impl.MaxDelay; due++ {
			wantPlace(t, now, due, plainPlace(now, due))
		}
	}
}

func TestP5PlaceOfTellsHowFarItIs(t *testing.T) {
	reach := [3]int64{8, 64, 512}
	for _, now := range nows() {
		last, block := int64(0), map[int64]int64{}
		for due := now + 1; due <= now+impl.MaxDelay; due++ {
			place := impl.PlaceOf(now, due).Value
			on := place / 8
			if on < last || due-now >= reach[on] {
				t.Errorf("%d seen from %d is on level %d", due, now, on)
			}
			last = on
			span := reach[on] / 8
			if first, ok := block[place]; ok && first != due/span {
				t.Errorf("seen from %d the place %d is of two times", now, place)
			}
			block[place] = due / span
		}
	}
}

func TestP5PlaceOfJustOutside(t *testing.T) {
	for _, now := range nows() {
		wantPlace(t, now, now+1, plainPlace(now, now+1))
		wantPlace(t, now, now+impl.MaxDelay, plainPlace(now, now+impl.MaxDelay))
		for _, due := range []int64{now, now - 1, now - 8, now - 511, -now - 1, now + 512, now + 513, now + 1024, now + 1<<32, math.MinInt64, math.MaxInt64} {
			wantNoPlace(t, now, due)
		}
	}
	for _, now := range []int64{-1, -2, -8, -511, -512, impl.MaxTime + 1, impl.MaxTime + 512, 1 << 32, math.MinInt64, math.MinInt64 + 1, math.MaxInt64 - 511, math.MaxInt64 - 1, math.MaxInt64} {
		// What would be due so wraps around at both ends of an int64.
		for _, due := range []int64{now, now + 1, now + 511, now + 512, 0, 1, impl.MaxTime, math.MinInt64, math.MaxInt64} {
			wantNoPlace(t, now, due)
		}
	}
}

func TestP5FaultOfNone(t *testing.T) {
	for _, w := range wheels() {
		wantWheelFault(t, wheelName(w), w, impl.OK)
	}
	for _, n := range oddNumbers() {
		w := plainWheel(9, impl.Timer{Key: impl.Key{Type: n, Id: n, Adv: n}, Due: 10}, impl.Timer{Key: impl.Key{Type: n, Adv: -3}, Due: 11}, impl.Timer{Key: impl.Key{Id: n, Adv: -5}, Due: 11})
		wantWheelFault(t, "any numbers of a Key", w, impl.OK)
	}
	w := plainWheel(0)
	for i := range w.Slots {
		w.Slots[i] = []impl.Timer{}
	}
	wantWheelFault(t, "lists that are empty, and not nil", w, impl.OK)
}

func TestP5FaultRangeOfNow(t *testing.T) {
	for _, now := range []int64{-1, -2, impl.MaxTime + 1, impl.MaxTime + 2, 1 << 32, math.MinInt64, math.MaxInt64} {
		w := plainWheel(0)
		w.Now = now
		wantWheelFault(t, "no time", w, impl.ErrRange)
		w.Slots = w.Slots[:23]
		wantWheelFault(t, "no time, ahead of 23 slots", w, impl.ErrRange)
		wantWheelFault(t, "no time, ahead of no slots", impl.Wheel{Now: now}, impl.ErrRange)
		w = plainWheel(0, spread(0, impl.MaxTimers+1)...)
		w.Now = now
		wantWheelFault(t, "no time, ahead of too many timers", w, impl.ErrRange)
	}
	wantWheelFault(t, "the first time", plainWheel(0), impl.OK)
	wantWheelFault(t, "the last time", plainWheel(impl.MaxTime), impl.OK)
}

func TestP5FaultManySlots(t *testing.T) {
	for _, n := range []int{0, 1, 7, 8, 15, 16, 17, 22, 23, 25, 26, 32, 48, 1000} {
		w := impl.Wheel{Now: 3, Slots: make([][]impl.Timer, n)}
		name := strconv.Itoa(n) + " slots"
		wantWheelFault(t, name, w, impl.ErrMany)
		if n == 0 {
			continue
		}
		wantWheelFault(t, name+", ahead of what is due now", put(w, 0, timer(1, 3)), impl.ErrMany)
		wantWheelFault(t, name+", ahead of what has another place", put(w, 0, timer(1, 4)), impl.ErrMany)
		wantWheelFault(t, name+", ahead of twins", put(w, 0, timer(1, 8), timer(1, 8)), impl.ErrMany)
	}
	wantWheelFault(t, "nothing at all", impl.Wheel{}, impl.ErrMany)
	w := plainWheel(0, spread(0, 20)...)
	w.Slots = append(w.Slots, nil)
	wantWheelFault(t, "one slot more, with nothing in it", w, impl.ErrMany)
}

func TestP5FaultManyTimers(t *testing.T) {
	for _, now := range nows() {
		for _, n := range []int{impl.MaxTimers, impl.MaxTimers + 1, impl.MaxTimers + 2, 200} {
			want := int64(impl.ErrMany)
			if n == impl.MaxTimers {
				want = impl.OK
			}
			name := strconv.Itoa(n) + " timers at " + strconv.FormatInt(now, 10)
			wantWheelFault(t, name, plainWheel(now, spread(now, n)...), want)
			wantWheelFault(t, name+", at a few times", plainWheel(now, crowded(now, n)...), want)
			var list []impl.Timer
			for i := range int64(n) {
				list = append(list, timer(i, now+impl.MaxDelay))
			}
			wantWheelFault(t, name+", in one slot", plainWheel(now, list...), want)
		}
	}
	many := plainWheel(8, spread(8, impl.MaxTimers+1)...)
	wantWheelFault(t, "too many, ahead of what is due now", put(many, 0, timer(99, 8)), impl.ErrMany)
	wantWheelFault(t, "too many, ahead of what has another place", put(many, 0, timer(99, 9)), impl.ErrMany)
	wantWheelFault(t, "too many, ahead of twins", put(many, 1, timer(99, 9), timer(99, 9)), impl.ErrMany)
	full := plainWheel(8, spread(8, impl.MaxTimers-1)...)
	wantWheelFault(t, "the last one that has room is due now", put(full, 0, timer(99, 8)), impl.ErrRange)
	wantWheelFault(t, "the last one that has room has another place", put(full, 0, timer(99, 9)), impl.ErrForm)
}

func TestP5FaultRangeOfDue(t *testing.T) {
	for _, now := range nows() {
		w := plainWheel(now, spread(now, 5)...)
		for _, due := range []int64{now, now - 1, now - 64, now + 512, now + 513, now + 1<<40, math.MinInt64, math.MaxInt64} {
			for slot := range int64(wheelSlots) {
				wantWheelFault(t, "due "+strconv.FormatInt(due, 10)+" at "+strconv.FormatInt(now, 10), put(w, slot, timer(99, due)), impl.ErrRange)
			}
		}
	}
}

func TestP5FaultFormOfPlaces(t *testing.T) {
	for _, now := range nows() {
		w := plainWheel(now, spread(now, 5)...)
		for _, delay := range []int64{1, 2, 7, 8, 9, 63, 64, 65, 448, 510, 511} {
			for slot := range int64(wheelSlots) {
				want := int64(impl.ErrForm)
				if slot == plainPlace(now, now+delay) {
					want = impl.OK
				}
				name := strconv.FormatInt(delay, 10) + " behind " + strconv.FormatInt(now, 10) + ", in slot " + strconv.FormatInt(slot, 10)
				wantWheelFault(t, name, put(w, slot, timer(99, now+delay)), want)
			}
		}
	}
	// Places are those that are seen from Now, not those that were seen when the timer came.
	w := plainWheel(7, timer(1, 9))
	w.Now = 8
	wantWheelFault(t, "not come down", w, impl.ErrForm)
}

func TestP5FaultStateOfTwins(t *testing.T) {
	base := plainWheel(5, spread(5, 9)...)
	twin := base.Slots[plainPlace(5, 6)][0]
	wantWheelFault(t, "twins in one slot", put(base, 6, twin), impl.ErrState)
	for _, due := range []int64{7, 8, 15, 63, 64, 500, 516} {
		wantWheelFault(t, "twins in different slots", put(base, plainPlace(5, due), timer(twin.Key.Id, due)), impl.ErrState)
	}
	wantWheelFault(t, "twins of different times in one slot", plainWheel(0, timer(1, 8), timer(2, 8), timer(1, 15)), impl.ErrState)
	wantWheelFault(t, "twins, the first and the last one", plainWheel(0, timer(1, 1), timer(2, 70), timer(1, 511)), impl.ErrState)
	zero := plainWheel(0, impl.Timer{Due: 1}, impl.Timer{Due: 9})
	wantWheelFault(t, "twins of zeros", zero, impl.ErrState)
	k := impl.Key{Type: 1, Id: 2, Adv: 3}
	for _, other := range []impl.Key{{Type: 2, Id: 2, Adv: 3}, {Type: 1, Id: 3, Adv: 3}, {Type: 1, Id: 2, Adv: 2}, {Type: 3, Id: 2, Adv: 1}, {Type: 2, Id: 1, Adv: 3}, {}} {
		wantWheelFault(t, "Keys that differ", plainWheel(0, impl.Timer{Key: k, Due: 1}, impl.Timer{Key: other, Due: 1}), impl.OK)
	}
}

func TestP5FaultsOfTimersAreAskedOneByOne(t *testing.T) {
	now := int64(8)
	early, wrong := timer(98, now), timer(99, now+1)
	for at := range int64(wheelSlots) {
		if at == plainPlace(now, wrong.Due) {
			continue
		}
		w := plainWheel(now)
		wantWheelFault(t, "in one slot, first the place", put(w, at, wrong, early), impl.ErrForm)
		wantWheelFault(t, "in one slot, first the time", put(w, at, early, wrong), impl.ErrRange)
		wantWheelFault(t, "twins of another place", put(w, at, wrong, wrong), impl.ErrForm)
		wantWheelFault(t, "twins that are due now", put(w, at, early, early), impl.ErrRange)
		for behind := at + 1; behind < wheelSlots; behind++ {
			if behind == plainPlace(now, wrong.Due) {
				continue
			}
			wantWheelFault(t, "slot by slot, first the place", put(put(w, behind, early), at, wrong), impl.ErrForm)
			wantWheelFault(t, "slot by slot, first the time", put(put(w, behind, wrong), at, early), impl.ErrRange)
		}
	}
	twins := plainWheel(now, timer(1, 9), timer(1, 9), timer(1, 100))
	wantWheelFault(t, "twins", twins, impl.ErrState)
	wantWheelFault(t, "twins ahead of another place", put(twins, 23, wrong), impl.ErrForm)
	wantWheelFault(t, "twins ahead of what is due now", put(twins, 23, early), impl.ErrRange)
}

func TestP5NewWheel(t *testing.T) {
	for _, now := range nows() {
		wantWheel(t, "at "+strconv.FormatInt(now, 10), impl.NewWheel(now), plainWheel(now))
		wantWheelFault(t, "a new one", impl.NewWheel(now).Wheel, impl.OK)
	}
	for _, now := range []int64{-1, -2, impl.MaxTime + 1, impl.MaxTime + 2, 1 << 32, math.MinInt64, math.MaxInt64} {
		wantWheelCode(t, "at "+strconv.FormatInt(now, 10), impl.NewWheel(now), impl.ErrRange)
	}
}

func TestP5TimersIn(t *testing.T) {
	for _, now := range nows() {
		wantWheel(t, "of an empty one", impl.TimersIn(impl.NewWheel(now).Wheel), plainWheel(now))
	}
	for _, w := range wheels() {
		wantWheel(t, wheelName(w), impl.TimersIn(w), w, inOrder(w)...)
	}
	w := plainWheel(5, timer(1, 500), timer(2, 8), timer(3, 7), timer(4, 15), timer(5, 6), timer(6, 7), timer(7, 64), timer(8, 9))
	wantWheel(t, "slot by slot", impl.TimersIn(w), w, timer(5, 6), timer(3, 7), timer(6, 7), timer(2, 8), timer(4, 15), timer(8, 9), timer(7, 64), timer(1, 500))
}

func TestP5AddTimerAtItsPlace(t *testing.T) {
	for _, now := range nows() {
		some := spread(now, 7)
		for due := now + 1; due <= now+impl.MaxDelay; due++ {
			x := timer(99, due)
			wantWheel(t, "alone, "+strconv.FormatInt(due, 10), impl.AddTimer(plainWheel(now), x), plainWheel(now, x))
			wantWheel(t, "beside others, "+strconv.FormatInt(due, 10), impl.AddTimer(plainWheel(now, some...), x), plainWheel(now, append(slices.Clone(some), x)...))
		}
	}
}

func TestP5AddTimerBehindOthersOfTheSamePlace(t *testing.T) {
	for _, now := range nows() {
		for _, delay := range []int64{1, 2, 7, 8, 9, 63, 64, 65, 448, 511} {
			x := timer(9, now+delay)
			w := impl.NewWheel(now).Wheel
			for id := int64(8); id > 0; id-- {
				w = impl.AddTimer(w, timer(id, x.Due)).Wheel
			}
			got := impl.AddTimer(w, x).Wheel.Slots[plainPlace(now, x.Due)]
			if len(got) != 9 || got[0].Key.Id != 8 || got[7].Key.Id != 1 || got[8] != x {
				t.Errorf("%d behind %d: got %v", delay, now, got)
			}
		}
	}
	// One place is that of several times; who comes later stands behind, though due ahead.
	w := impl.AddTimer(plainWheel(5, timer(1, 15), timer(2, 8)), timer(3, 9)).Wheel
	if want := []impl.Timer{timer(1, 15), timer(2, 8), timer(3, 9)}; !slices.Equal(w.Slots[9], want) {
		t.Errorf("got %v, want %v", w.Slots[9], want)
	}
	w = impl.AddTimer(plainWheel(5, timer(1, 127), timer(2, 64)), timer(3, 100)).Wheel
	if want := []impl.Timer{timer(1, 127), timer(2, 64), timer(3, 100)}; !slices.Equal(w.Slots[17], want) {
		t.Errorf("got %v, want %v", w.Slots[17], want)
	}
}

func TestP5AddTimerUpToFull(t *testing.T) {
	for _, list := range [][]impl.Timer{spread(500, impl.MaxTimers), crowded(500, impl.MaxTimers)} {
		w := impl.NewWheel(500).Wheel
		for i, x := range list {
			got := impl.AddTimer(w, x)
			wantWheel(t, "timer "+strconv.Itoa(i), got, plainWheel(500, list[:i+1]...))
			w = got.Wheel
		}
		for _, due := range []int64{501, 508, 512, 600, 1011} {
			wantWheelCode(t, "one more", impl.AddTimer(w, timer(-1, due)), impl.ErrFull)
		}
		again := impl.AddTimer(impl.DropTimer(w, list[30].Key).Wheel, timer(-1, 505))
		wantWheel(t, "one more, where one is gone", again, plainWheel(500, slices.Concat(list[:30], list[31:], []impl.Timer{timer(-1, 505)})...))
	}
}

func TestP5AddTimerAnyKey(t *testing.T) {
	for _, n := range oddNumbers() {
		for _, k := range []impl.Key{{Type: n}, {Id: n}, {Adv: n}, {Type: n, Id: n, Adv: n}} {
			x := impl.Timer{Key: k, Due: 70}
			wantWheel(t, "any Key", impl.AddTimer(plainWheel(5, timer(99, 70)), x), plainWheel(5, timer(99, 70), x))
		}
	}
}

func TestP5AddTimerCodesAreAskedInOrder(t *testing.T) {
	for _, now := range nows() {
		some, full := plainWheel(now, spread(now, 20)...), plainWheel(now, spread(now, impl.MaxTimers)...)
		for _, due := range []int64{now, now - 1, now - 512, now + 512, now + 513, now + 1<<40, math.MinInt64, math.MaxInt64} {
			for _, w := range []impl.Wheel{plainWheel(now), some, full} {
				wantWheelCode(t, "not due so", impl.AddTimer(w, timer(-1, due)), impl.ErrRange)
				wantWheelCode(t, "not due so, ahead of its Key", impl.AddTimer(w, timer(1, due)), impl.ErrRange)
			}
		}
		for _, due := range []int64{now + 1, now + 2, now + 64, now + 511} {
			for id := int64(1); id <= 20; id++ {
				wantWheelCode(t, "its Key is there", impl.AddTimer(some, timer(id, due)), impl.ErrState)
				wantWheelCode(t, "its Key is there, ahead of no room", impl.AddTimer(full, timer(id, due)), impl.ErrState)
			}
			wantWheelCode(t, "no room", impl.AddTimer(full, timer(61, due)), impl.ErrFull)
		}
	}
	w := plainWheel(0, impl.Timer{Key: impl.Key{Type: 1, Id: 2, Adv: 3}, Due: 9})
	for _, k := range []impl.Key{{Type: 2, Id: 2, Adv: 3}, {Type: 1, Id: 3, Adv: 3}, {Type: 1, Id: 2, Adv: 2}, {}} {
		if got := impl.AddTimer(w, impl.Timer{Key: k, Due: 9}); got.Code != impl.OK {
			t.Errorf("another Key, %v: code %d", k, got.Code)
		}
	}
}

func TestP5DropTimerOfEachPlaceInASlot(t *testing.T) {
	for _, now := range nows() {
		for _, delay := range []int64{1, 7, 8, 63, 64, 511} {
			a, b, c, d := timer(1, now+delay), timer(2, now+delay), timer(3, now+delay), timer(4, now+delay)
			w := plainWheel(now, a, b, c, d)
			wantWheel(t, "the first one", impl.DropTimer(w, a.Key), plainWheel(now, b, c, d))
			wantWheel(t, "the second one", impl.DropTimer(w, b.Key), plainWheel(now, a, c, d))
			wantWheel(t, "the last one", impl.DropTimer(w, d.Key), plainWheel(now, a, b, c))
			wantWheel(t, "the only one", impl.DropTimer(plainWheel(now, a), a.Key), plainWheel(now))
		}
	}
	for _, w := range wheels() {
		for _, x := range inOrder(w) {
			rest := slices.DeleteFunc(inOrder(w), func(y impl.Timer) bool { return y == x })
			wantWheel(t, wheelName(w), impl.DropTimer(w, x.Key), plainWheel(w.Now, rest...))
		}
	}
}

func TestP5DropTimerOfAKeyThatIsNotThere(t *testing.T) {
	w := plainWheel(0, impl.Timer{Key: impl.Key{Type: 1, Id: 2, Adv: 3}, Due: 1}, impl.Timer{Key: impl.Key{Type: 4, Id: 5, Adv: 6}, Due: 70})
	for _, k := range []impl.Key{{}, {Type: 1, Id: 2}, {Type: 1, Adv: 3}, {Id: 2, Adv: 3}, {Type: 1, Id: 5, Adv: 3}, {Type: 4, Id: 5, Adv: 3}, {Type: 3, Id: 2, Adv: 1}} {
		wantWheelCode(t, "not there", impl.DropTimer(w, k), impl.ErrNone)
	}
	for _, w := range wheels() {
		wantWheelCode(t, wheelName(w), impl.DropTimer(w, impl.Key{Type: 9, Id: 1, Adv: 7}), impl.ErrNone)
		for _, x := range inOrder(w) {
			wantWheelCode(t, "twice", impl.DropTimer(impl.DropTimer(w, x.Key).Wheel, x.Key), impl.ErrNone)
		}
	}
}

func TestP5DropTimerLeavesThoseOfAlmostItsKey(t *testing.T) {
	keys := []impl.Key{{Type: 1, Id: 2, Adv: 3}, {Type: 4, Id: 2, Adv: 3}, {Type: 1, Id: 4, Adv: 3}, {Type: 1, Id: 2, Adv: 4}, {Type: 3, Id: 2, Adv: 1}, {}}
	for _, delay := range []int64{0, 9} {
		var list []impl.Timer
		for i, k := range keys {
			list = append(list, impl.Timer{Key: k, Due: 9 + int64(i)*delay})
		}
		for i, k := range keys {
			rest := slices.Concat(list[:i], list[i+1:])
			wantWheel(t, "almost the same Key", impl.DropTimer(plainWheel(0, list...), k), plainWheel(0, rest...))
		}
	}
}

func TestP5WhatWasDroppedIsNotDue(t *testing.T) {
	for _, list := range [][]impl.Timer{spread(60, impl.MaxTimers), crowded(60, impl.MaxTimers)} {
		w := plainWheel(60, list...)
		for _, x := range list {
			dropped := impl.DropTimer(w, x.Key).Wheel
			want := slices.DeleteFunc(dueUpTo(w, 1000), func(y impl.Timer) bool { return y == x })
			wantWheel(t, "all but one", impl.RunWheel(dropped, 600), plainWheel(660), want...)
		}
	}
}

func TestP5TickWheelPassesTheEndOfALevel(t *testing.T) {
	w := plainWheel(7, timer(1, 15), timer(2, 9), timer(3, 8), timer(4, 15), timer(5, 9), timer(6, 16), timer(7, 64), timer(8, 8))
	want := plainWheel(8)
	want.Slots[1] = []impl.Timer{timer(2, 9), timer(5, 9)}
	want.Slots[7] = []impl.Timer{timer(1, 15), timer(4, 15)}
	want.Slots[10] = []impl.Timer{timer(6, 16)}
	want.Slots[17] = []impl.Timer{timer(7, 64)}
	wantWheel(t, "the end of level 0", impl.TickWheel(w), want, timer(3, 8), timer(8, 8))

	w = plainWheel(63, timer(1, 127), timer(2, 65), timer(3, 64), timer(4, 72), timer(5, 71), timer(6, 128), timer(7, 65), timer(8, 79))
	want = plainWheel(64)
	want.Slots[1] = []impl.Timer{timer(2, 65), timer(7, 65)}
	want.Slots[7] = []impl.Timer{timer(5, 71)}
	want.Slots[9] = []impl.Timer{timer(4, 72), timer(8, 79)}
	want.Slots[15] = []impl.Timer{timer(1, 127)}
	want.Slots[18] = []impl.Timer{timer(6, 128)}
	wantWheel(t, "the end of level 1, by one level and by two", impl.TickWheel(w), want, timer(3, 64))

	w = plainWheel(511, timer(1, 1022), timer(2, 513), timer(3, 512), timer(4, 575), timer(5, 576), timer(6, 520))
	want = plainWheel(512)
	want.Slots[1] = []impl.Timer{timer(2, 513)}
	want.Slots[9] = []impl.Timer{timer(6, 520)}
	want.Slots[15] = []impl.Timer{timer(4, 575)}
	want.Slots[17] = []impl.Timer{timer(5, 576)}
	want.Slots[23] = []impl.Timer{timer(1, 1022)}
	wantWheel(t, "the end of level 2", impl.TickWheel(w), want, timer(3, 512))
}

func TestP5TickWheelInsideALevel(t *testing.T) {
	list := []impl.Timer{timer(1, 500), timer(2, 8), timer(3, 7), timer(4, 64), timer(5, 15), timer(6, 7)}
	w := plainWheel(5, list...)
	wantWheel(t, "nothing is due, and nothing comes down", impl.TickWheel(w), impl.Wheel{Now: 6, Slots: w.Slots})
	wantWheel(t, "some are due", impl.TickWheel(impl.TickWheel(w).Wheel), plainWheel(7, list[0], list[1], list[3], list[4]), timer(3, 7), timer(6, 7))
	// A slot of level 2 may be the one in which Now is, for what is a whole turn further.
	far := impl.TickWheel(plainWheel(500, timer(1, 1011), timer(2, 504))).Wheel
	if len(far.Slots[23]) != 1 || len(far.Slots[15]) != 1 || far.Now != 501 {
		t.Errorf("what is a whole turn further came down: %v", far)
	}
}

func TestP5TickWheelSeveralDueAtOnce(t *testing.T) {
	for _, now := range nows()[:len(nows())-1] {
		var first, rest []impl.Timer
		for id := range int64(20) {
			first = append(first, timer(50-id, now+1))
			rest = append(rest, timer(100+id, now+2+id*11))
		}
		wantWheel(t, "all at once", impl.TickWheel(plainWheel(now, first...)), plainWheel(now+1), first...)
		mixed := slices.Concat(rest[:10], first[:5], rest[10:], first[5:])
		wantWheel(t, "beside others", impl.TickWheel(plainWheel(now, mixed...)), plainWheel(now+1, rest...), first...)
	}
}

func TestP5TickWheelOfEachWheel(t *testing.T) {
	for _, w := range wheels() {
		if w.Now == impl.MaxTime {
			wantWheelCode(t, wheelName(w), impl.TickWheel(w), impl.ErrFull)
			continue
		}
		then := w.Now + 1
		wantWheel(t, wheelName(w), impl.TickWheel(w), plainWheel(then, leftBehind(w, then)...), dueUpTo(w, then)...)
	}
}

func TestP5TickWheelAtMaxTime(t *testing.T) {
	w := plainWheel(impl.MaxTime-1, timer(1, impl.MaxTime), timer(2, impl.MaxTime+1), timer(3, impl.MaxTime+510), timer(4, impl.MaxTime))
	last := impl.TickWheel(w)
	wantWheel(t, "up to MaxTime", last, plainWheel(impl.MaxTime, timer(2, impl.MaxTime+1), timer(3, impl.MaxTime+510)), timer(1, impl.MaxTime), timer(4, impl.MaxTime))
	wantWheelCode(t, "beyond MaxTime", impl.TickWheel(last.Wheel), impl.ErrFull)
	wantWheelCode(t, "beyond MaxTime, with nothing in it", impl.TickWheel(plainWheel(impl.MaxTime)), impl.ErrFull)
}

func TestP5EachTimerIsDueOnceJustAtItsTime(t *testing.T) {
	for _, w := range wheels() {
		if w.Now > impl.MaxTime-impl.MaxDelay-10 {
			continue
		}
		times := map[impl.Key]int64{}
		at := w
		for at.Now < w.Now+impl.MaxDelay+10 {
			got := impl.TickWheel(at)
			at = got.Wheel
			for _, x := range got.Due {
				if _, twice := times[x.Key]; twice || x.Due != at.Now {
					t.Errorf("%s: at %d it is due: %v", wheelName(w), at.Now, x)
				}
				times[x.Key] = at.Now
			}
			wantWheel(t, wheelName(w), got, plainWheel(at.Now, leftBehind(w, at.Now)...), got.Due...)
		}
		for _, x := range inOrder(w) {
			if times[x.Key] != x.Due {
				t.Errorf("%s: %v was due at %d", wheelName(w), x, times[x.Key])
			}
		}
	}
}

func TestP5EachDelayFromEachPartOfALevel(t *testing.T) {
	for now := int64(0); now < 600; now += 37 {
		for delay := int64(1); delay <= impl.MaxDelay; delay += 3 {
			x := timer(1, now+delay)
			w := impl.AddTimer(impl.NewWheel(now).Wheel, x).Wheel
			before := impl.RunWheel(w, delay-1)
			wantWheel(t, "just ahead of its time", before, plainWheel(x.Due-1, x))
			wantWheel(t, "at its time", impl.TickWheel(before.Wheel), plainWheel(x.Due), x)
			wantWheel(t, "behind its time", impl.RunWheel(w, delay+1), plainWheel(x.Due+1), x)
		}
	}
}

func TestP5RunWheel(t *testing.T) {
	for _, w := range wheels() {
		for _, ticks := range []int64{0, 1, 2, 7, 8, 9, 63, 64, 65, 510, 511, 512, 999, 1000} {
			then := w.Now + ticks
			name := wheelName(w) + " by " + strconv.FormatInt(ticks, 10)
			if then > impl.MaxTime {
				wantWheelCode(t, name, impl.RunWheel(w, ticks), impl.ErrFull)
				continue
			}
			wantWheel(t, name, impl.RunWheel(w, ticks), plainWheel(then, leftBehind(w, then)...), dueUpTo(w, then)...)
		}
	}
}

func TestP5RunWheelByNoTicksIsTheWheel(t *testing.T) {
	for _, w := range wheels() {
		wantWheel(t, wheelName(w), impl.RunWheel(w, 0), w)
	}
}

func TestP5RunWheelIsSoManyTimesTickWheel(t *testing.T) {
	for _, now := range []int64{0, 5, 63, 500, 511, impl.MaxTime - 1000} {
		w := plainWheel(now, crowded(now, impl.MaxTimers)...)
		wantWheel(t, "by no ticks", impl.RunWheel(w, 0), w)
		at, due := w, []impl.Timer(nil)
		for n := int64(1); n <= 1000; n++ {
			tick := impl.TickWheel(at)
			at, due = tick.Wheel, append(due, tick.Due...)
			if n < 80 || n%50 == 0 || n > 990 {
				wantWheel(t, "by "+strconv.FormatInt(n, 10), impl.RunWheel(w, n), at, due...)
			}
		}
	}
}

func TestP5RunWheelByPartsIsByTheWhole(t *testing.T) {
	for _, now := range []int64{0, 7, 60, 511, 700} {
		w := plainWheel(now, spread(now, impl.MaxTimers)...)
		for _, a := range []int64{0, 1, 3, 8, 60, 64, 448, 511} {
			for _, b := range []int64{0, 1, 4, 8, 64, 100, 489} {
				first := impl.RunWheel(w, a)
				second := impl.RunWheel(first.Wheel, b)
				wantWheel(t, "by parts", impl.RunWheel(w, a+b), second.Wheel, append(first.Due, second.Due...)...)
			}
		}
	}
}

func TestP5RunWheelUpToMaxTimeAndBeyond(t *testing.T) {
	for _, ticks := range []int64{0, 1, 2, 511, 512, 999, 1000} {
		now := impl.MaxTime - ticks
		w := plainWheel(now, spread(now, impl.MaxTimers)...)
		wantWheel(t, "up to MaxTime", impl.RunWheel(w, ticks), plainWheel(impl.MaxTime, leftBehind(w, impl.MaxTime)...), dueUpTo(w, impl.MaxTime)...)
		for beyond := ticks + 1; beyond <= 1000; beyond++ {
			wantWheelCode(t, "beyond MaxTime", impl.RunWheel(w, beyond), impl.ErrFull)
		}
		for _, no := range []int64{-1, 1001, math.MaxInt64, math.MinInt64} {
			wantWheelCode(t, "ticks that are none, ahead of MaxTime", impl.RunWheel(w, no), impl.ErrRange)
		}
	}
	w := plainWheel(impl.MaxTime-1000, spread(impl.MaxTime-1000, 20)...)
	w = impl.RunWheel(w, 999).Wheel
	wantWheelCode(t, "one beyond MaxTime", impl.RunWheel(w, 2), impl.ErrFull)
	wantWheel(t, "just MaxTime", impl.RunWheel(w, 1), plainWheel(impl.MaxTime))
}

func TestP5RunWheelTicksThatAreNone(t *testing.T) {
	for _, w := range wheels() {
		for _, ticks := range []int64{-1, -2, -1000, 1001, 1002, 1 << 32, math.MinInt64, math.MaxInt64 - impl.MaxTime, math.MaxInt64} {
			wantWheelCode(t, wheelName(w), impl.RunWheel(w, ticks), impl.ErrRange)
		}
	}
}

// TestP5AnyTurnsAreThoseOfOneList adds, drops and ticks by turns: a wheel has what a list of the
// timers, in the order in which they came, would have.
func TestP5AnyTurnsAreThoseOfOneList(t *testing.T) {
	for seed := range uint32(40) {
		now := int64(seed) * 29
		w, list := impl.NewWheel(now).Wheel, []impl.Timer(nil)
		for step, b := range patternOf(400, seed+1) {
			name := "seed " + strconv.Itoa(int(seed)) + ", step " + strconv.Itoa(step)
			if b%8 == 0 && len(list) > 0 {
				at := int(b/8) % len(list)
				got := impl.DropTimer(w, list[at].Key)
				list = slices.Delete(list, at, at+1)
				wantWheel(t, name, got, plainWheel(now, list...))
				w = got.Wheel
			} else if b%8 < 5 && len(list) < impl.MaxTimers {
				x := timer(int64(step), now+1+int64(b)*int64(step)%impl.MaxDelay)
				got := impl.AddTimer(w, x)
				list = append(list, x)
				wantWheel(t, name, got, plainWheel(now, list...))
				w = got.Wheel
			} else {
				got := impl.RunWheel(w, int64(b/8))
				now += int64(b / 8)
				due := dueUpTo(plainWheel(now-int64(b/8), list...), now)
				list = slices.DeleteFunc(list, func(x impl.Timer) bool { return x.Due <= now })
				wantWheel(t, name, got, plainWheel(now, list...), due...)
				w = got.Wheel
			}
		}
	}
}

func TestP5SameWheels(t *testing.T) {
	base := plainWheel(5, timer(1, 7), timer(2, 7), timer(3, 500))
	others := []impl.Wheel{
		{}, plainWheel(5), {Now: 6, Slots: base.Slots}, {Now: -5, Slots: base.Slots}, {Now: 5, Slots: base.Slots[:23]}, {Now: 5, Slots: append(cloneWheel(base).Slots, nil)},
		plainWheel(5, timer(1, 7), timer(2, 7)), plainWheel(5, timer(2, 7), timer(1, 7), timer(3, 500)), plainWheel(5, timer(1, 7), timer(2, 7), timer(3, 501)),
		plainWheel(5, timer(1, 7), timer(2, 7), timer(4, 500)), plainWheel(5, timer(1, 7), timer(2, 7), timer(3, 500), timer(4, 500)),
		plainWheel(5, timer(1, 7), timer(2, 7), impl.Timer{Key: impl.Key{Type: 2, Id: 3, Adv: 7}, Due: 500}),
		plainWheel(5, timer(1, 7), timer(2, 7), impl.Timer{Key: impl.Key{Type: 1, Id: 3, Adv: 8}, Due: 500}),
		put(plainWheel(5, timer(1, 7), timer(2, 7)), 22, timer(3, 500)), put(base, 0, impl.Timer{}),
	}
	for i, other := range others {
		if impl.SameWheels(base, other) || impl.SameWheels(other, base) {
			t.Errorf("other %d: the same", i)
		}
		if !impl.SameWheels(other, cloneWheel(other)) {
			t.Errorf("other %d: not the same as itself", i)
		}
	}
	if !impl.SameWheels(base, cloneWheel(base)) || !impl.SameWheels(impl.Wheel{}, impl.Wheel{}) {
		t.Error("not the same")
	}
	empty := plainWheel(5)
	for i := range empty.Slots {
		empty.Slots[i] = []impl.Timer{}
	}
	if !impl.SameWheels(empty, plainWheel(5)) || !impl.SameWheels(plainWheel(5), empty) || !impl.SameWheels(impl.Wheel{Slots: [][]impl.Timer{}}, impl.Wheel{}) {
		t.Error("an empty list and nil are not the same")
	}
}

// oddWheels are wheels of any numbers and lists, most of them with faults.
func oddWheels() []impl.Wheel {
	list := append(wheels(), impl.Wheel{})
	for _, n := range oddNumbers() {
		list = append(list, impl.Wheel{Now: n}, impl.Wheel{Now: n, Slots: make([][]impl.Timer, wheelSlots)})
		list = append(list, put(plainWheel(8), 1, timer(n, n)), put(plainWheel(8), 9, timer(n, 16), timer(n, 17)))
		w := plainWheel(0, timer(1, 1), timer(2, 100))
		w.Now = n
		list = append(list, w)
	}
	for _, n := range []int{1, 23, 24, 25, 100000} {
		w := impl.Wheel{Slots: make([][]impl.Timer, n)}
		for i := range w.Slots {
			w.Slots[i] = make([]impl.Timer, 10000)[:10000/n]
		}
		list = append(list, w)
	}
	huge := plainWheel(0)
	huge.Slots[23] = make([]impl.Timer, 10000)
	for i := range huge.Slots {
		huge.Slots[i] = huge.Slots[23]
	}
	return append(list, huge)
}

func TestP1EveryFunctionOfTheWheelAnswers(t *testing.T) {
	for _, w := range oddWheels() {
		code := impl.WheelFault(w)
		if code != impl.OK && code != impl.ErrRange && code != impl.ErrMany && code != impl.ErrForm && code != impl.ErrState {
			t.Errorf("fault %d", code)
		}
		wantWheelFault(t, "an odd one", w, code)
		if !impl.SameWheels(w, w) {
			t.Error("not the same as itself")
		}
	}
	for _, n := range oddNumbers() {
		for _, m := range oddNumbers() {
			want := impl.IntResult{Code: impl.ErrRange}
			if n >= 0 && n <= impl.MaxTime && m > n && m <= n+impl.MaxDelay {
				want = impl.IntResult{Value: plainPlace(n, m)}
			}
			wantInt(t, strconv.FormatInt(m, 10)+" seen from "+strconv.FormatInt(n, 10), impl.PlaceOf(n, m), want)
		}
		if n < 0 || n > impl.MaxTime {
			wantWheelCode(t, "no time", impl.NewWheel(n), impl.ErrRange)
		} else {
			wantWheel(t, "a time", impl.NewWheel(n), plainWheel(n))
		}
		if n < 0 || n > 1000 {
			wantWheelCode(t, "no ticks", impl.RunWheel(plainWheel(7), n), impl.ErrRange)
		} else {
			wantWheel(t, "ticks", impl.RunWheel(plainWheel(7), n), plainWheel(7+n))
		}
		if n < 8 || n > 518 {
			wantWheelCode(t, "not due so", impl.AddTimer(plainWheel(7), timer(1, n)), impl.ErrRange)
		} else {
			wantWheel(t, "due so", impl.AddTimer(plainWheel(7), timer(1, n)), plainWheel(7, timer(1, n)))
		}
		wantWheelCode(t, "no Key", impl.DropTimer(plainWheel(7), impl.Key{Type: n, Id: n, Adv: n}), impl.ErrNone)
	}
}

// wheelTurns are all functions of the chapter that answer a wheel of a wheel, with codes and without.
func wheelTurns() []func(w impl.Wheel) impl.WheelResult {
	turns := []func(w impl.Wheel) impl.WheelResult{impl.TimersIn, impl.TickWheel}
	for _, n := range []int64{-1, 0, 1, 8, 70, 511} {
		turns = append(turns, func(w impl.Wheel) impl.WheelResult { return impl.RunWheel(w, n) })
		turns = append(turns, func(w impl.Wheel) impl.WheelResult { return impl.AddTimer(w, timer(-7, w.Now+n)) })
	}
	for _, id := range []int64{-1, 1, 3, 41, 50} {
		turns = append(turns, func(w impl.Wheel) impl.WheelResult { return impl.DropTimer(w, timer(id, 0).Key) })
	}
	return turns
}

// roomy is w with room behind the end of each list, in which something stands.
func roomy(w impl.Wheel) impl.Wheel {
	w = cloneWheel(w)
	for i, slot := range w.Slots {
		w.Slots[i] = append(slot, timer(-91, 91), timer(-92, 92), timer(-93, 93))[:len(slot)]
	}
	w.Slots = append(w.Slots, []impl.Timer{timer(-94, 94)})[:len(w.Slots)]
	return w
}

// withRoom is w as long as its lists are with what roomy has put behind them.
func withRoom(w impl.Wheel) impl.Wheel {
	n := len(w.Slots)
	w.Slots = slices.Clone(w.Slots[:n+1])
	for i := range w.Slots[:n] {
		w.Slots[i] = w.Slots[i][:len(w.Slots[i])+3]
	}
	return cloneWheel(w)
}

func TestP1WheelsAreNotChanged(t *testing.T) {
	twins := plainWheel(8, timer(1, 9), timer(1, 9))
	for _, w := range append(wheels(), impl.Wheel{}, plainWheel(0, spread(0, 61)...), twins, put(plainWheel(8), 0, timer(1, 9))) {
		given := roomy(w)
		before := withRoom(given)
		for _, turn := range wheelTurns() {
			turn(given)
		}
		impl.WheelFault(given)
		impl.SameWheels(given, w)
		impl.SameWheels(w, given)
		if !isWheel(given, w) || !isWheel(withRoom(given), before) {
			t.Errorf("%s: it was changed", wheelName(w))
		}
	}
}

// spoil turns all that the lists of a result have, and all that there is room for behind them.
func spoil(r impl.WheelResult) {
	for _, slot := range append(r.Wheel.Slots[:cap(r.Wheel.Slots)], r.Due) {
		whole := slot[:cap(slot)]
		for i := range whole {
			whole[i] = timer(-66, -66)
		}
	}
	clear(r.Wheel.Slots[:cap(r.Wheel.Slots)])
}

func TestP1WheelsAreNewMemory(t *testing.T) {
	for _, w := range wheels() {
		for _, turn := range wheelTurns() {
			given := roomy(w)
			before := withRoom(given)
			first, second := turn(given), turn(given)
			want, due := cloneWheel(second.Wheel), slices.Clone(second.Due)
			spoil(first)
			if !isWheel(given, w) || !isWheel(withRoom(given), before) {
				t.Errorf("%s: an answer shares memory with its argument", wheelName(w))
			}
			spoil(impl.WheelResult{Wheel: given})
			if !isWheel(second.Wheel, want) || !slices.Equal(second.Due, due) {
				t.Errorf("%s: an answer hangs on its argument, or on another answer", wheelName(w))
			}
		}
	}
	first := impl.NewWheel(3)
	spoil(first)
	wantWheel(t, "a new one", impl.NewWheel(3), plainWheel(3))
}

func TestP1TheListsOfAWheelShareNoMemory(t *testing.T) {
	for _, w := range wheels() {
		for _, turn := range append(wheelTurns(), func(w impl.Wheel) impl.WheelResult { return impl.NewWheel(w.Now) }) {
			got := turn(w)
			want, due := cloneWheel(got.Wheel), slices.Clone(got.Due)
			for at, slot := range got.Wheel.Slots {
				spoil(impl.WheelResult{Due: slot})
				copy(slot, want.Slots[at])
				if !isWheel(got.Wheel, want) || !slices.Equal(got.Due, due) {
					t.Fatalf("%s: slot %d shares memory with another list", wheelName(w), at)
				}
			}
			spoil(impl.WheelResult{Due: got.Due})
			if !isWheel(got.Wheel, want) {
				t.Fatalf("%s: what is due shares memory with a slot", wheelName(w))
			}
		}
	}
}

func TestP1WheelsHangOnArgumentsAlone(t *testing.T) {
	others := []impl.Wheel{{}, plainWheel(9, spread(9, impl.MaxTimers)...), plainWheel(impl.MaxTime), plainWheel(3, timer(1, 4), timer(1, 4))}
	for i, w := range wheels() {
		for _, turn := range wheelTurns() {
			first := turn(w)
			turn(others[i%len(others)])
			again := turn(roomy(w))
			if again.Code != first.Code || !isWheel(again.Wheel, first.Wheel) || !slices.Equal(again.Due, first.Due) {
				t.Errorf("%s, once more: got %v, want %v", wheelName(w), again, first)
			}
		}
	}
}
