package tests

import (
	"math"
	"slices"
	"strconv"
	"testing"

	"loop.example/g00732/impl"
)

// wantOrder asks the order of both, the one of them turned round, and what IsNewer makes of it.
func wantOrder(t *testing.T, what string, a impl.Lsa, b impl.Lsa, order int64) {
	t.Helper()
	if got := impl.CompareLsas(a, b); got != (impl.OrderResult{Order: order}) {
		t.Errorf("%s: got %v, want the order %d", what, got, order)
	}
	if got := impl.CompareLsas(b, a); got != (impl.OrderResult{Order: -order}) {
		t.Errorf("%s, turned round: got %v, want the order %d", what, got, -order)
	}
	if impl.IsNewer(a, b) != (order == 1) || impl.IsNewer(b, a) != (order == -1) {
		t.Errorf("%s: IsNewer tells %v, and %v turned round, want the order %d", what, impl.IsNewer(a, b), impl.IsNewer(b, a), order)
	}
}

// wantNoOrder asks the code, that nothing else is told beside it, and that neither is newer.
func wantNoOrder(t *testing.T, what string, a impl.Lsa, b impl.Lsa, code int64) {
	t.Helper()
	if got := impl.CompareLsas(a, b); got != (impl.OrderResult{Code: code}) {
		t.Errorf("%s: got %v, want code %d and nothing else", what, got, code)
	}
	if impl.IsNewer(a, b) || impl.IsNewer(b, a) {
		t.Errorf("%s: one is newer", what)
	}
}

func wantLsa(t *testing.T, what string, got impl.LsaResult, want impl.Lsa) {
	t.Helper()
	if got.Code != impl.OK || !impl.SameLsas(got.Lsa, want) {
		t.Errorf("%s: got %v, want %v", what, got, want)
	}
}

func wantLsaCode(t *testing.T, what string, got impl.LsaResult, code int64) {
	t.Helper()
	if got.Code != code || !isZeroLsa(got.Lsa) {
		t.Errorf("%s: got %v, want code %d and nothing else", what, got, code)
	}
}

// rivals tell of the same thing, with different numbers, sums and ages. Options of 0 and of 255
// make the same sum, so that what has the same sum is not always the same.
func rivals() []impl.Lsa {
	var list []impl.Lsa
	for _, seq := range []int64{impl.MinSeq, -1, 0, 1, impl.MaxSeq} {
		for _, options := range []int64{0, 1, 255} {
			for _, age := range []int64{0, 1, 899, 900, 901, 1800, 1801, 2699, 2700, 3599, impl.MaxAge} {
				list = append(list, with(routerLsa(5, point(6, 7, 8)), sequenced(seq), optioned(options), aged(age)))
			}
		}
	}
	return list
}

// plainOrder is the order by its definition, of two without a fault that tell of the same thing.
func plainOrder(a impl.Lsa, b impl.Lsa) int64 {
	x, y := resealed(plainBytes(a)), resealed(plainBytes(b))
	sumA, sumB := int64(x[16])*256+int64(x[17]), int64(y[16])*256+int64(y[17])
	switch {
	case a.Seq > b.Seq:
		return 1
	case a.Seq < b.Seq:
		return -1
	case sumA > sumB:
		return 1
	case sumA < sumB:
		return -1
	case a.Age == b.Age:
		return 0
	case a.Age == impl.MaxAge:
		return 1
	case b.Age == impl.MaxAge:
		return -1
	case a.Age+impl.AgeGap < b.Age:
		return 1
	case b.Age+impl.AgeGap < a.Age:
		return -1
	}
	return 0
}

func TestFreshConstantHasItsNumber(t *testing.T) {
	if impl.AgeGap != 900 {
		t.Errorf("AgeGap is %d", impl.AgeGap)
	}
}

func TestP4TheGreaterSeqIsNewer(t *testing.T) {
	seqs := []int64{impl.MinSeq, impl.MinSeq + 1, -65536, -256, -2, -1, 0, 1, 2, 255, 256, 65536, impl.MaxSeq - 1, impl.MaxSeq}
	for _, l := range ordinary() {
		for i, high := range seqs {
			for _, low := range seqs[:i] {
				wantOrder(t, "the greater Seq", with(l, sequenced(high)), with(l, sequenced(low)), 1)
			}
			wantOrder(t, "the same Seq", with(l, sequenced(high)), with(l, sequenced(high)), 0)
		}
	}
}

func TestP4TheGreaterSeqCountsAheadOfAllElse(t *testing.T) {
	for _, low := range rivals() {
		if low.Seq == impl.MaxSeq {
			continue
		}
		for _, options := range []int64{0, 1, 2, 128, 255} {
			for _, age := range []int64{0, 900, 2700, impl.MaxAge - 1, impl.MaxAge} {
				high := with(low, sequenced(low.Seq+1), optioned(options), aged(age))
				wantOrder(t, "a Seq that is one more", high, low, 1)
			}
		}
	}
}

func TestP4TheGreaterSumIsNewer(t *testing.T) {
	// The sums, worked out anew, so that none of them is what SumOf makes of it.
	sums := map[int64]impl.Lsa{}
	for options := range int64(256) {
		l := with(summaryLsa(11, 1, 255, 70000), optioned(options))
		data := resealed(plainBytes(l))
		sums[int64(data[16])*256+int64(data[17])] = l
	}
	turned := false
	for x, a := range sums {
		for y, b := range sums {
			if x <= y {
				continue
			}
			turned = turned || x%256 < y%256
			wantOrder(t, "the greater sum", a, b, 1)
			wantOrder(t, "the greater sum, far older", with(a, aged(impl.MaxAge-1)), b, 1)
			wantOrder(t, "the greater sum, far younger", a, with(b, aged(impl.MaxAge-1)), 1)
			wantOrder(t, "the greater sum beside the age MaxAge", a, with(b, aged(impl.MaxAge)), 1)
			wantOrder(t, "the greater sum, of the age MaxAge", with(a, aged(impl.MaxAge)), b, 1)
		}
	}
	if len(sums) != 255 || !turned {
		t.Errorf("%d sums, and a greater one with a lower second byte: %v", len(sums), turned)
	}
}

func TestP4TheSameSumOfOtherContentsCountsAsTheSame(t *testing.T) {
	pairs := [][2]impl.Lsa{
		{routerLsa(5, point(6, 7, 8)), with(routerLsa(5, point(6, 7, 8)), optioned(255))},
		{networkLsa(11, 1, 0, 1, 2), networkLsa(11, 1, 255, 1, 2)},
		{summaryLsa(11, 1, 0, 3), summaryLsa(11, 1, impl.MaxId, 3)},
		{summaryLsa(11, 1, 5, 0), summaryLsa(11, 1, 5, impl.MaxFar)},
	}
	for i, p := range pairs {
		name := "pair " + strconv.Itoa(i)
		wantOrder(t, name, p[0], p[1], 0)
		wantOrder(t, name+", AgeGap apart", with(p[0], aged(impl.AgeGap)), p[1], 0)
		wantOrder(t, name+", more apart", with(p[0], aged(impl.AgeGap+1)), p[1], -1)
		wantOrder(t, name+", of which one is as old as can be", with(p[0], aged(impl.MaxAge)), p[1], 1)
		wantOrder(t, name+", both as old as can be", with(p[0], aged(impl.MaxAge)), with(p[1], aged(impl.MaxAge)), 0)
	}
}

func TestP4AgesAsFarApartAsCounts(t *testing.T) {
	for _, l := range ordinary() {
		for _, low := range []int64{0, 1, 2, 898, 899, 900, 901, 1799, 1800, 2697, 2698} {
			young := with(l, aged(low))
			for _, apart := range []int64{0, 1, 2, impl.AgeGap / 2, impl.AgeGap - 1, impl.AgeGap} {
				wantOrder(t, "not far apart from "+strconv.FormatInt(low, 10), young, with(l, aged(low+apart)), 0)
			}
			for _, high := range []int64{low + impl.AgeGap + 1, impl.MaxAge - 1} {
				wantOrder(t, "far apart from "+strconv.FormatInt(low, 10), young, with(l, aged(high)), 1)
			}
		}
		wantOrder(t, "up to the last age, just as far", with(l, aged(2699)), with(l, aged(3599)), 0)
		wantOrder(t, "up to the last age, one more", with(l, aged(2698)), with(l, aged(3599)), 1)
	}
}

func TestP4AsOldAsCanBeIsNewer(t *testing.T) {
	for _, l := range ordinary() {
		end := with(l, aged(impl.MaxAge))
		for _, age := range []int64{0, 1, 899, 900, 901, 2698, 2699, 2700, 2701, 3598, 3599} {
			wantOrder(t, "the age MaxAge beside "+strconv.FormatInt(age, 10), end, with(l, aged(age)), 1)
		}
		wantOrder(t, "both of the age MaxAge", end, with(l, aged(impl.MaxAge)), 0)
	}
	for _, l := range edgy() {
		if l.Age < impl.MaxAge && !impl.IsNewer(impl.FlushLsa(l).Lsa, l) {
			t.Errorf("%s: not older than what is as old as can be", nameOf(l))
		}
	}
}

func TestP4OfTwoAtMostOneIsNewer(t *testing.T) {
	list := rivals()
	for _, a := range list {
		for _, b := range list {
			wantOrder(t, nameOf(a)+" and "+nameOf(b), a, b, plainOrder(a, b))
		}
	}
	for _, l := range edgy() {
		wantOrder(t, nameOf(l)+" and itself", l, l, 0)
	}
}

func TestP4CompareLsasOfDifferentKeys(t *testing.T) {
	list := []impl.Lsa{
		routerLsa(1), routerLsa(2), networkLsa(1, 1, 0, 5), networkLsa(1, 2, 0, 5), networkLsa(2, 1, 0, 5),
		summaryLsa(1, 1, 0, 5), summaryLsa(1, 2, 0, 5), summaryLsa(2, 1, 0, 5), summaryLsa(2, 2, 0, 5),
	}
	for i, a := range list {
		for j, b := range list {
			if i == j {
				wantOrder(t, "the same Key", with(a, sequenced(9)), b, 1)
				continue
			}
			wantNoOrder(t, "different Keys", a, b, impl.ErrState)
			wantNoOrder(t, "different Keys, the first one newer", with(a, sequenced(9)), b, impl.ErrState)
			wantNoOrder(t, "different Keys, the second one as old as can be", a, with(b, aged(impl.MaxAge)), impl.ErrState)
		}
	}
}

// faulty has, by each code that LsaFault tells, some of which it tells that.
func faulty() map[int64][]impl.Lsa {
	return map[int64][]impl.Lsa{
		impl.ErrForm:  {{}, with(routerLsa(5), typed(4)), with(routerLsa(5), masked(1)), with(routerLsa(5), identified(4)), networkLsa(5, 5, 0, 2, 1)},
		impl.ErrRange: {with(routerLsa(5), aged(impl.MaxAge+1)), with(routerLsa(5), aged(-1)), with(routerLsa(5), sequenced(impl.MaxSeq+1)), routerLsa(5, point(1, 2, -1)), networkLsa(5, 5, 0, -1)},
		impl.ErrMany:  {networkLsa(5, 5, 0), networkLsa(5, 5, 0, manyRouters(9)...), routerLsa(5, manyLinks(9)...)},
	}
}

func TestP4CompareLsasCodesAreAskedInOrder(t *testing.T) {
	sound := []impl.Lsa{routerLsa(5), routerLsa(6), networkLsa(5, 5, 0, 1), summaryLsa(5, 5, 0, 1)}
	for code, list := range faulty() {
		for _, bad := range list {
			wantNoOrder(t, "a fault beside itself", bad, bad, code)
			for _, good := range sound {
				wantNoOrder(t, "the first one, ahead of the Keys", bad, good, code)
				wantNoOrder(t, "the second one, ahead of the Keys", good, bad, code)
			}
			for _, others := range faulty() {
				for _, other := range others {
					wantNoOrder(t, "the first one ahead of the second one", bad, other, code)
				}
			}
		}
	}
}

func TestP4AgeLsaIsOlderByTicks(t *testing.T) {
	for _, l := range edgy() {
		for _, ticks := range []int64{0, 1, 2, 255, 256, 900, 1800, impl.MaxAge - 1, impl.MaxAge, impl.MaxAge + 1, 2 * impl.MaxAge, math.MaxInt64 - 1, math.MaxInt64} {
			age := int64(impl.MaxAge)
			if ticks < impl.MaxAge-l.Age {
				age = l.Age + ticks
			}
			wantLsa(t, nameOf(l)+" by "+strconv.FormatInt(ticks, 10), impl.AgeLsa(l, ticks), with(l, aged(age)))
		}
	}
}

func TestP4AgeLsaUpToMaxAge(t *testing.T) {
	for _, l := range ordinary() {
		for _, age := range []int64{0, 1, 900, 3598, 3599, 3600} {
			l := with(l, aged(age))
			left := impl.MaxAge - age
			wantLsa(t, "by nothing", impl.AgeLsa(l, 0), l)
			wantLsa(t, "up to MaxAge", impl.AgeLsa(l, left), with(l, aged(impl.MaxAge)))
			wantLsa(t, "one beyond MaxAge", impl.AgeLsa(l, left+1), with(l, aged(impl.MaxAge)))
			wantLsa(t, "by all that there are", impl.AgeLsa(l, math.MaxInt64), with(l, aged(impl.MaxAge)))
			if left > 0 {
				wantLsa(t, "one less than MaxAge", impl.AgeLsa(l, left-1), with(l, aged(impl.MaxAge-1)))
			}
		}
	}
}

func TestP4ToAgeByPartsIsToAgeByTheWhole(t *testing.T) {
	parts := []int64{0, 1, 2, 899, 900, 901, 1799, 1800, 3599, 3600, 3601, 1 << 40, math.MaxInt64 / 2}
	for _, l := range edgy() {
		for _, p := range parts {
			for _, q := range parts {
				whole := impl.AgeLsa(l, p+q)
				wantLsa(t, nameOf(l)+" by parts", impl.AgeLsa(impl.AgeLsa(l, p).Lsa, q), whole.Lsa)
			}
		}
	}
	l := with(summaryLsa(1, 2, 3, 4), aged(5))
	for tick := int64(1); tick < 4000; tick++ {
		l = impl.AgeLsa(l, 1).Lsa
		wantLsa(t, "tick by tick", impl.AgeLsa(summaryLsa(1, 2, 3, 4), 5+tick), l)
	}
}

func TestP4OlderTellsEachField(t *testing.T) {
	r := with(routerLsa(5, point(6, 7, 8), transit(9, 10, 11)), aged(1), optioned(2), sequenced(-3))
	n := with(networkLsa(5, 6, 7, 8, 9), aged(1), optioned(2), sequenced(3))
	s := with(summaryLsa(5, 6, 7, 8), aged(1), optioned(2), sequenced(impl.MinSeq))
	for _, l := range []impl.Lsa{r, n, s} {
		wantOlderFields(t, l, impl.AgeLsa(l, 40).Lsa, 41)
		wantOlderFields(t, l, impl.FlushLsa(l).Lsa, impl.MaxAge)
	}
}

// wantOlderFields asks field by field, so that a SameLsas that overlooks one does not hide it.
func wantOlderFields(t *testing.T, l impl.Lsa, got impl.Lsa, age int64) {
	t.Helper()
	if got.Age != age || got.Options != l.Options || got.Key != l.Key || got.Seq != l.Seq || got.Mask != l.Mask || got.Cost != l.Cost ||
		!slices.Equal(got.Links, l.Links) || !slices.Equal(got.Routers, l.Routers) {
		t.Errorf("%s: got %v, want it of the age %d", nameOf(l), got, age)
	}
}

func TestP4AgeLsaCodes(t *testing.T) {
	for _, ticks := range []int64{-1, -2, -900, -impl.MaxAge, math.MinInt64 + 1, math.MinInt64} {
		for _, l := range edgy() {
			wantLsaCode(t, nameOf(l)+" by "+strconv.FormatInt(ticks, 10), impl.AgeLsa(l, ticks), impl.ErrRange)
		}
	}
	for code, list := range faulty() {
		for _, bad := range list {
			for _, ticks := range []int64{0, 1, impl.MaxAge, math.MaxInt64, -1, math.MinInt64} {
				wantLsaCode(t, "a fault ahead of the ticks", impl.AgeLsa(bad, ticks), code)
			}
		}
	}
}

func TestP4FlushLsa(t *testing.T) {
	for _, l := range edgy() {
		for _, age := range []int64{0, 1, 900, impl.MaxAge - 1, impl.MaxAge} {
			l := with(l, aged(age))
			wantLsa(t, nameOf(l), impl.FlushLsa(l), with(l, aged(impl.MaxAge)))
			wantLsa(t, nameOf(l)+", twice", impl.FlushLsa(impl.FlushLsa(l).Lsa), with(l, aged(impl.MaxAge)))
			wantLsa(t, nameOf(l)+", as by all ticks", impl.AgeLsa(l, math.MaxInt64), impl.FlushLsa(l).Lsa)
		}
	}
	for code, list := range faulty() {
		for _, bad := range list {
			wantLsaCode(t, "a fault", impl.FlushLsa(bad), code)
		}
	}
}

func TestP4NextSeq(t *testing.T) {
	for _, seq := range []int64{impl.MinSeq, impl.MinSeq + 1, -65536, -2, -1, 0, 1, 255, 65535, impl.MaxSeq - 2, impl.MaxSeq - 1} {
		name := "behind " + strconv.FormatInt(seq, 10)
		next := impl.NextSeq(seq)
		wantInt(t, name, next, impl.IntResult{Value: seq + 1})
		for _, l := range ordinary() {
			wantOrder(t, name, with(l, sequenced(next.Value)), with(l, sequenced(seq)), 1)
		}
	}
	wantInt(t, "the last one", impl.NextSeq(impl.MaxSeq), impl.IntResult{Code: impl.ErrFull})
	for _, seq := range []int64{impl.MinSeq - 1, impl.MinSeq - 2, impl.MaxSeq + 1, impl.MaxSeq + 2, 1 << 32, -1 << 32, math.MinInt64, math.MaxInt64} {
		wantInt(t, "outside, "+strconv.FormatInt(seq, 10), impl.NextSeq(seq), impl.IntResult{Code: impl.ErrRange})
	}
}

func TestP1EveryFunctionOfFreshnessAnswers(t *testing.T) {
	for _, n := range oddNumbers() {
		want := impl.IntResult{Code: impl.ErrRange}
		if n == impl.MaxSeq {
			want = impl.IntResult{Code: impl.ErrFull}
		} else if n >= impl.MinSeq && n < impl.MaxSeq {
			want = impl.IntResult{Value: n + 1}
		}
		wantInt(t, "behind "+strconv.FormatInt(n, 10), impl.NextSeq(n), want)
		if got := impl.AgeLsa(routerLsa(1), n); n < 0 && got.Code != impl.ErrRange || n >= 0 && (got.Code != impl.OK || got.Lsa.Age != min(n, impl.MaxAge)) {
			t.Errorf("by %d: got %v", n, got)
		}
	}
	for _, l := range oddLsas() {
		code := impl.LsaFault(l)
		if code == impl.OK {
			wantLsa(t, nameOf(l), impl.FlushLsa(l), with(l, aged(impl.MaxAge)))
			wantLsa(t, nameOf(l), impl.AgeLsa(l, 0), l)
			wantOrder(t, nameOf(l), l, l, 0)
			wantLsaCode(t, "ticks below 0", impl.AgeLsa(l, -1), impl.ErrRange)
			continue
		}
		wantLsaCode(t, "an odd one, flushed", impl.FlushLsa(l), code)
		wantLsaCode(t, "an odd one, older", impl.AgeLsa(l, math.MaxInt64), code)
		wantLsaCode(t, "an odd one, by ticks below 0", impl.AgeLsa(l, math.MinInt64), code)
		wantNoOrder(t, "an odd one first", l, routerLsa(1), code)
		wantNoOrder(t, "an odd one second", routerLsa(1), l, code)
	}
}

// callFresh calls each function of the chapter that takes advertisements, with codes and without.
func callFresh(a impl.Lsa, b impl.Lsa) {
	impl.CompareLsas(a, b)
	impl.CompareLsas(b, a)
	impl.IsNewer(a, b)
	impl.IsNewer(b, a)
	for _, ticks := range []int64{-1, 0, 7, math.MaxInt64} {
		impl.AgeLsa(a, ticks)
	}
	impl.FlushLsa(a)
}

func TestP1FreshnessChangesNoArgument(t *testing.T) {
	for _, l := range append(edgy(), routerLsa(1, manyLinks(9)...), networkLsa(1, 2, 3, 9, 8, 7), with(routerLsa(1, impl.Link{}), routed(3, 2))) {
		// The room behind the end of a list belongs to the caller, too.
		room := with(l, linked(append(slices.Clone(l.Links), impl.Link{Kind: 91}, impl.Link{Kind: 92})...), routed(append(slices.Clone(l.Routers), 93, 94)...))
		given := room
		given.Links, given.Routers = room.Links[:len(l.Links)], room.Routers[:len(l.Routers)]
		before := cloneLsa(room)
		callFresh(given, l)
		callFresh(given, with(l, aged(impl.MaxAge)))
		callFresh(given, given)
		if !slices.Equal(room.Links, before.Links) || !slices.Equal(room.Routers, before.Routers) || !impl.SameLsas(given, l) {
			t.Errorf("%s was changed", nameOf(l))
		}
	}
}

func TestP1AgedAndFlushedAreNewMemory(t *testing.T) {
	turns := []func(l impl.Lsa) impl.LsaResult{
		impl.FlushLsa,
		func(l impl.Lsa) impl.LsaResult { return impl.AgeLsa(l, 0) },
		func(l impl.Lsa) impl.LsaResult { return impl.AgeLsa(l, 5) },
		func(l impl.Lsa) impl.LsaResult { return impl.AgeLsa(l, math.MaxInt64) },
	}
	for _, l := range edgy() {
		kept := cloneLsa(l)
		for _, turn := range turns {
			given := cloneLsa(l)
			first, second := turn(given).Lsa, turn(given).Lsa
			want := cloneLsa(second)
			clear(first.Links)
			clear(first.Routers)
			if !impl.SameLsas(second, want) || !impl.SameLsas(given, kept) {
				t.Errorf("%s: what is older shares memory", nameOf(l))
			}
			clear(given.Links)
			clear(given.Routers)
			if !impl.SameLsas(second, want) {
				t.Errorf("%s: what is older hangs on its argument after the call", nameOf(l))
			}
			// What is put behind an answer's lists must not come to stand in the argument's room.
			room := with(l, linked(append(slices.Clone(l.Links), impl.Link{Kind: 91})...), routed(append(slices.Clone(l.Routers), 93)...))
			short := room
			short.Links, short.Routers = room.Links[:len(l.Links)], room.Routers[:len(l.Routers)]
			longer := turn(short).Lsa
			longer.Links, longer.Routers = append(longer.Links, impl.Link{Kind: 7}), append(longer.Routers, 8)
			if room.Links[len(l.Links)].Kind != 91 || room.Routers[len(l.Routers)] != 93 {
				t.Errorf("%s: what is older has the argument's room", nameOf(l))
			}
		}
	}
}

func TestP1FreshnessHangsOnArgumentsAlone(t *testing.T) {
	list := rivals()
	for i, a := range list {
		b := list[(i*7+3)%len(list)]
		order, older, oldest := impl.CompareLsas(a, b), impl.AgeLsa(a, 9), impl.FlushLsa(a)
		callFresh(impl.Lsa{}, networkLsa(1, 2, 3))
		callFresh(routerLsa(1, manyLinks(8)...), routerLsa(2))
		room := with(a, linked(append(make([]impl.Link, 0, 50), a.Links...)...), routed(make([]int64, 0, 50)...))
		if got := impl.CompareLsas(room, b); got != order {
			t.Errorf("%s, once more: got %v, want %v", nameOf(a), got, order)
		}
		wantLsa(t, nameOf(a)+", older once more", impl.AgeLsa(room, 9), older.Lsa)
		wantLsa(t, nameOf(a)+", flushed once more", impl.FlushLsa(room), oldest.Lsa)
	}
}
