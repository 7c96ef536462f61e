package tests

import (
	"fmt"
	"math"
	"slices"
	"strconv"
	"strings"
	"testing"

	"loop.example/g00732/impl"
)

func entry(l impl.Lsa, at int64) impl.Entry {
	return impl.Entry{Lsa: l, At: at}
}

func baseAt(now int64, list ...impl.Entry) impl.Base {
	return impl.Base{Now: now, Entries: list}
}

// keyed is an advertisement without a fault of this Key; of a router the Id is the Adv, too.
func keyed(kind int64, id int64, adv int64) impl.Lsa {
	switch kind {
	case impl.TypeRouter:
		return routerLsa(id, point(3, 4, 5))
	case impl.TypeNetwork:
		return networkLsa(id, adv, 255, 6, 7)
	}
	return summaryLsa(id, adv, 255, 8)
}

// manyEntries has n entries of all Types, rising, of many ages now from 0 to MaxAge - 1.
func manyEntries(now int64, n int) []impl.Entry {
	var list []impl.Entry
	for i := range int64(n) {
		kind, id := 1+i*3/int64(n), 10+i
		if kind != impl.TypeRouter {
			// Two have the same Id, and are told apart by who tells them.
			id = 10 + i/2
		}
		old := i * 997 % impl.MaxAge
		since := min(now, old*(i%3)/2)
		l := with(keyed(kind, id, 100+i), aged(old-since), sequenced(i-7), optioned(i))
		list = append(list, entry(l, now-since))
	}
	return list
}

// bases are without a fault, from empty to full ones.
func bases() []impl.Base {
	var list []impl.Base
	for _, now := range []int64{0, 1, 50, impl.MaxAge - 1, impl.MaxAge, 5000, impl.MaxTime - 1, impl.MaxTime} {
		list = append(list, baseAt(now), baseAt(now, manyEntries(now, 1)...), baseAt(now, manyEntries(now, 2)...))
		list = append(list, baseAt(now, manyEntries(now, 7)...), baseAt(now, manyEntries(now, impl.MaxEntries)...))
		young, old := keyed(2, 5, 6), with(keyed(3, 5, 6), aged(impl.MaxAge-1))
		list = append(list, baseAt(now, entry(young, now)), baseAt(now, entry(old, now)), baseAt(now, entry(young, now), entry(old, now)))
		list = append(list, baseAt(now, entry(young, max(0, now-impl.MaxAge+1))))
	}
	return list
}

func cloneBase(b impl.Base) impl.Base {
	b.Entries = slices.Clone(b.Entries)
	for i, e := range b.Entries {
		b.Entries[i].Lsa = cloneLsa(e.Lsa)
	}
	return b
}

// without has all entries of b but the one at the place.
func without(b impl.Base, at int) impl.Base {
	b = cloneBase(b)
	b.Entries = slices.Delete(b.Entries, at, at+1)
	return b
}

// turnedAt is b in which the entry at the place has gone through the turn.
func turnedAt(b impl.Base, at int, turn func(e *impl.Entry)) impl.Base {
	b = cloneBase(b)
	turn(&b.Entries[at])
	return b
}

// isLsa and isBase ask field by field, so that a SameLsas or SameBases that overlooks one does not hide it.
func isLsa(a impl.Lsa, b impl.Lsa) bool {
	return a.Age == b.Age && a.Options == b.Options && a.Key == b.Key && a.Seq == b.Seq && slices.Equal(a.Links, b.Links) &&
		slices.Equal(a.Routers, b.Routers) && a.Mask == b.Mask && a.Cost == b.Cost
}

func isBase(a impl.Base, b impl.Base) bool {
	if a.Now != b.Now || len(a.Entries) != len(b.Entries) {
		return false
	}
	for i, e := range a.Entries {
		if e.At != b.Entries[i].At || !isLsa(e.Lsa, b.Entries[i].Lsa) {
			return false
		}
	}
	return true
}

func isBaseResult(a impl.BaseResult, b impl.BaseResult) bool {
	return a.Code == b.Code && isBase(a.Base, b.Base) && a.Changed == b.Changed && slices.Equal(a.Gone, b.Gone)
}

func baseName(b impl.Base) string {
	return strconv.Itoa(len(b.Entries)) + " entries at " + strconv.FormatInt(b.Now, 10)
}

func wantBase(t *testing.T, what string, got impl.BaseResult, want impl.BaseResult) {
	t.Helper()
	if !isBaseResult(got, want) {
		t.Errorf("%s: got %v, want %v", what, got, want)
	}
}

func wantBaseCode(t *testing.T, what string, got impl.BaseResult, code int64) {
	t.Helper()
	if !isBaseResult(got, impl.BaseResult{Code: code}) {
		// Not the base itself, which may be a huge one.
		t.Errorf("%s: got code %d, %s, changed %v, %d gone, want code %d and nothing else", what, got.Code, baseName(got.Base), got.Changed, len(got.Gone), code)
	}
}

func wantFound(t *testing.T, what string, got impl.LsaResult, want impl.Lsa) {
	t.Helper()
	if got.Code != impl.OK || !isLsa(got.Lsa, want) {
		t.Errorf("%s: got %v, want %v", what, got, want)
	}
}

// wantBaseFault asks the fault of b of all that tell it, ahead of what else may be wrong.
func wantBaseFault(t *testing.T, what string, b impl.Base, code int64) {
	t.Helper()
	if got := impl.BaseFault(b); got != code {
		t.Errorf("%s: BaseFault is %d, want %d", what, got, code)
	}
	if code == impl.OK {
		wantBase(t, what+", AgesIn", impl.AgesIn(b), plainAges(b))
		return
	}
	wantBaseCode(t, what+", AgesIn", impl.AgesIn(b), code)
	for _, l := range []impl.Lsa{{}, keyed(1, 2, 2), with(keyed(1, 2, 2), aged(impl.MaxAge)), with(keyed(2, 1, 1), aged(-1))} {
		wantBaseCode(t, what+", InstallLsa", impl.InstallLsa(b, l), code)
		wantBaseCode(t, what+", RemoveLsa", impl.RemoveLsa(b, l.Key), code)
		wantLsaCode(t, what+", LookupLsa", impl.LookupLsa(b, l.Key), code)
	}
	if len(b.Entries) > 0 {
		wantBaseCode(t, what+", InstallLsa of what is there", impl.InstallLsa(b, b.Entries[0].Lsa), code)
		wantBaseCode(t, what+", RemoveLsa of what is there", impl.RemoveLsa(b, b.Entries[0].Lsa.Key), code)
		wantLsaCode(t, what+", LookupLsa of what is there", impl.LookupLsa(b, b.Entries[0].Lsa.Key), code)
	}
	for _, ticks := range []int64{-1, 0, 1, impl.MaxAge, impl.MaxAge + 1, math.MaxInt64} {
		wantBaseCode(t, what+", TickBase", impl.TickBase(b, ticks), code)
	}
}

// What follows is the chapter anew, by lists alone; all of it is asked of what has no fault.

func plainAge(b impl.Base, at int) int64 {
	return b.Entries[at].Lsa.Age + b.Now - b.Entries[at].At
}

func plainFind(b impl.Base, k impl.Key) int {
	return slices.IndexFunc(b.Entries, func(e impl.Entry) bool { return e.Lsa.Key == k })
}

// plainRank rises as Keys do, whose numbers are at least 0 here.
func plainRank(k impl.Key) string {
	return fmt.Sprintf("%020d %020d %020d", k.Type, k.Id, k.Adv)
}

func plainCompare(x impl.Key, y impl.Key) int {
	return strings.Compare(plainRank(x), plainRank(y))
}

func plainInstall(b impl.Base, l impl.Lsa) impl.BaseResult {
	at := plainFind(b, l.Key)
	if at >= 0 && plainOrder(l, with(b.Entries[at].Lsa, aged(plainAge(b, at)))) != 1 {
		return impl.BaseResult{Code: impl.ErrOld}
	}
	if l.Age == impl.MaxAge {
		if at < 0 {
			return impl.BaseResult{Base: cloneBase(b)}
		}
		return impl.BaseResult{Base: without(b, at), Changed: true, Gone: []impl.Key{l.Key}}
	}
	if at >= 0 {
		return impl.BaseResult{Base: turnedAt(b, at, func(e *impl.Entry) { *e = entry(l, b.Now) }), Changed: true}
	}
	if len(b.Entries) == impl.MaxEntries {
		return impl.BaseResult{Code: impl.ErrFull}
	}
	b = cloneBase(b)
	at = 0
	for at < len(b.Entries) && plainCompare(b.Entries[at].Lsa.Key, l.Key) < 0 {
		at++
	}
	b.Entries = slices.Insert(b.Entries, at, entry(cloneLsa(l), b.Now))
	return impl.BaseResult{Base: b, Changed: true}
}

func plainRemove(b impl.Base, k impl.Key) impl.BaseResult {
	at := plainFind(b, k)
	if at < 0 {
		return impl.BaseResult{Code: impl.ErrNone}
	}
	return impl.BaseResult{Base: without(b, at), Changed: true, Gone: []impl.Key{k}}
}

func plainTick(b impl.Base, ticks int64) impl.BaseResult {
	if b.Now+ticks > impl.MaxTime {
		return impl.BaseResult{Code: impl.ErrFull}
	}
	b = cloneBase(b)
	b.Now += ticks
	r := impl.BaseResult{Base: baseAt(b.Now)}
	for at, e := range b.Entries {
		if plainAge(b, at) < impl.MaxAge {
			r.Base.Entries = append(r.Base.Entries, e)
		} else {
			r.Changed, r.Gone = true, append(r.Gone, e.Lsa.Key)
		}
	}
	return r
}

func plainAges(b impl.Base) impl.BaseResult {
	r := impl.BaseResult{Base: cloneBase(b)}
	for at := range b.Entries {
		r.Base.Entries[at] = entry(with(b.Entries[at].Lsa, aged(plainAge(b, at))), b.Now)
	}
	return r
}

func TestBaseConstantHasItsNumber(t *testing.T) {
	if impl.MaxEntries != 40 {
		t.Errorf("MaxEntries is %d", impl.MaxEntries)
	}
}

func TestP6BaseFaultOfNone(t *testing.T) {
	for _, b := range bases() {
		wantBaseFault(t, baseName(b), b, impl.OK)
	}
	wantBaseFault(t, "nothing at all", impl.Base{}, impl.OK)
	wantBaseFault(t, "a list that is empty, and not nil", impl.Base{Entries: []impl.Entry{}}, impl.OK)
	for _, l := range edgy() {
		want := int64(impl.OK)
		if l.Age == impl.MaxAge {
			want = impl.ErrRange
		}
		wantBaseFault(t, nameOf(l), baseAt(7, entry(l, 7)), want)
	}
}

func TestP6BaseFaultRangeOfNow(t *testing.T) {
	many := manyEntries(0, impl.MaxEntries)
	many = append(many, entry(keyed(3, 9999, 0), 0))
	for _, now := range []int64{-1, -2, -impl.MaxTime, impl.MaxTime + 1, impl.MaxTime + 2, 1 << 32, math.MinInt64, math.MaxInt64} {
		name := "at " + strconv.FormatInt(now, 10)
		wantBaseFault(t, name, baseAt(now), impl.ErrRange)
		wantBaseFault(t, name+", with an entry", baseAt(now, entry(keyed(1, 2, 2), 0)), impl.ErrRange)
		wantBaseFault(t, name+", with an entry put there then", baseAt(now, entry(keyed(1, 2, 2), now)), impl.ErrRange)
		wantBaseFault(t, name+", ahead of too many", baseAt(now, many...), impl.ErrRange)
		wantBaseFault(t, name+", ahead of the fault of an entry", baseAt(now, impl.Entry{}), impl.ErrRange)
		wantBaseFault(t, name+", ahead of twins", baseAt(now, entry(keyed(1, 2, 2), 0), entry(keyed(1, 2, 2), 0)), impl.ErrRange)
	}
	wantBaseFault(t, "the first time", baseAt(0, entry(keyed(1, 2, 2), 0)), impl.OK)
	wantBaseFault(t, "the last time", baseAt(impl.MaxTime, entry(keyed(1, 2, 2), impl.MaxTime)), impl.OK)
}

func TestP6BaseFaultManyEntries(t *testing.T) {
	for _, now := range []int64{0, 3000, impl.MaxTime} {
		full := manyEntries(now, impl.MaxEntries)
		wantBaseFault(t, "as many as there may be", baseAt(now, full...), impl.OK)
		last := entry(keyed(3, impl.MaxId, impl.MaxId), now)
		wantBaseFault(t, "one more", baseAt(now, append(full, last)...), impl.ErrMany)
		wantBaseFault(t, "far more", baseAt(now, slices.Repeat(full, 50)...), impl.ErrMany)
		wantBaseFault(t, "one more, ahead of its fault", baseAt(now, append(full, impl.Entry{})...), impl.ErrMany)
		wantBaseFault(t, "one more, ahead of its At", baseAt(now, append(full, entry(last.Lsa, now+1))...), impl.ErrMany)
		wantBaseFault(t, "one more, ahead of its age now", baseAt(now, append(full, entry(with(last.Lsa, aged(impl.MaxAge)), now))...), impl.ErrMany)
		wantBaseFault(t, "one more, a twin", baseAt(now, append(full, full[39])...), impl.ErrMany)
		wantBaseFault(t, "one more, that falls", baseAt(now, append(full, full[0])...), impl.ErrMany)
	}
	wantBaseFault(t, "many of nothing", baseAt(0, make([]impl.Entry, impl.MaxEntries+1)...), impl.ErrMany)
	wantBaseFault(t, "as many of nothing as there may be", baseAt(0, make([]impl.Entry, impl.MaxEntries)...), impl.ErrForm)
}

func TestP6BaseFaultOfAnEntry(t *testing.T) {
	sound := baseAt(100, entry(keyed(1, 2, 2), 3), entry(keyed(2, 4, 4), 5), entry(keyed(3, 6, 6), 7))
	for code, list := range faulty() {
		for _, bad := range list {
			for at := range sound.Entries {
				name := "code " + strconv.FormatInt(code, 10) + " at " + strconv.Itoa(at)
				wantBaseFault(t, name, turnedAt(sound, at, func(e *impl.Entry) { e.Lsa = bad }), code)
				wantBaseFault(t, name+", ahead of At", turnedAt(sound, at, func(e *impl.Entry) { *e = entry(bad, 101) }), code)
				wantBaseFault(t, name+", ahead of At below 0", turnedAt(sound, at, func(e *impl.Entry) { *e = entry(bad, math.MinInt64) }), code)
			}
			wantBaseFault(t, "ahead of twins", baseAt(100, sound.Entries[0], sound.Entries[0], entry(bad, 0)), code)
			wantBaseFault(t, "the only one", baseAt(0, entry(bad, 0)), code)
		}
	}
	tooOld := with(keyed(2, 4, 4), aged(impl.MaxAge+1))
	wantBaseFault(t, "an Age that no advertisement has", baseAt(0, entry(tooOld, 0)), impl.ErrRange)
	wantBaseFault(t, "ahead of its age now", baseAt(0, entry(with(keyed(2, 4, 4), aged(impl.MaxAge), routed()), 0)), impl.ErrMany)
}

func TestP6BaseFaultRangeOfAt(t *testing.T) {
	for _, now := range []int64{0, 1, 2, 3599, 3600, 3601, impl.MaxTime} {
		for _, at := range []int64{-1, -2, -3600, now + 1, now + 2, now + 3600, impl.MaxTime + 1, 1 << 40, math.MinInt64, math.MinInt64 + 1, math.MinInt64 + 3600, math.MaxInt64 - 1, math.MaxInt64} {
			name := "put there at " + strconv.FormatInt(at, 10) + ", at " + strconv.FormatInt(now, 10)
			for _, age := range []int64{0, 1, 3599} {
				wantBaseFault(t, name, baseAt(now, entry(with(keyed(2, 4, 4), aged(age)), at)), impl.ErrRange)
			}
			wantBaseFault(t, name+", behind others", baseAt(now, entry(keyed(1, 4, 4), now), entry(keyed(2, 4, 4), at)), impl.ErrRange)
			wantBaseFault(t, name+", ahead of others", baseAt(now, entry(keyed(1, 4, 4), at), entry(keyed(2, 4, 4), now)), impl.ErrRange)
		}
		wantBaseFault(t, "put there now", baseAt(now, entry(keyed(2, 4, 4), now)), impl.OK)
	}
	wantBaseFault(t, "put there at first", baseAt(3599, entry(keyed(2, 4, 4), 0)), impl.OK)
}

func TestP6BaseFaultRangeOfTheAgeNow(t *testing.T) {
	for _, now := range []int64{3600, 4000, impl.MaxTime} {
		for _, age := range []int64{0, 1, 900, 1800, 3598, 3599} {
			l := with(keyed(2, 4, 4), aged(age))
			left := impl.MaxAge - age
			name := "the Age " + strconv.FormatInt(age, 10) + " at " + strconv.FormatInt(now, 10)
			wantBaseFault(t, name+", at its last tick", baseAt(now, entry(l, now-left+1)), impl.OK)
			wantBaseFault(t, name+", as old as can be", baseAt(now, entry(l, now-left)), impl.ErrRange)
			wantBaseFault(t, name+", older", baseAt(now, entry(l, max(0, now-left-1))), impl.ErrRange)
			wantBaseFault(t, name+", behind others", baseAt(now, entry(keyed(1, 4, 4), now), entry(l, now-left)), impl.ErrRange)
			wantBaseFault(t, name+", ahead of twins", baseAt(now, entry(l, now), entry(l, now-left)), impl.ErrRange)
		}
		wantBaseFault(t, "of the age MaxAge from the first on", baseAt(now, entry(with(keyed(2, 4, 4), aged(impl.MaxAge)), now)), impl.ErrRange)
	}
	wantBaseFault(t, "since the first time", baseAt(impl.MaxTime, entry(keyed(2, 4, 4), 0)), impl.ErrRange)
}

func TestP6BaseFaultsOfEntriesAreAskedOneByOne(t *testing.T) {
	late, old := entry(keyed(1, 2, 2), 51), entry(with(keyed(1, 2, 2), aged(3590)), 0)
	many, form := entry(networkLsa(3, 3, 0), 0), entry(impl.Lsa{}, 0)
	for _, first := range []impl.Entry{late, old} {
		wantBaseFault(t, "a range first, then many", baseAt(50, first, many), impl.ErrRange)
		wantBaseFault(t, "many first, then a range", baseAt(50, many, first), impl.ErrMany)
		wantBaseFault(t, "a range first, then a form", baseAt(50, first, form), impl.ErrRange)
		wantBaseFault(t, "a form first, then a range", baseAt(50, form, first), impl.ErrForm)
		wantBaseFault(t, "a sound one first", baseAt(50, entry(keyed(1, 1, 1), 50), first, form), impl.ErrRange)
	}
	wantBaseFault(t, "a form first, then many", baseAt(50, form, many), impl.ErrForm)
	wantBaseFault(t, "many first, then a form", baseAt(50, many, form), impl.ErrMany)
}

func TestP6BaseFaultFormOfKeys(t *testing.T) {
	// Each pair rises in the first part that differs; parts behind that one may fall.
	pairs := [][2]impl.Lsa{
		{keyed(1, 2, 2), keyed(2, 2, 2)}, {keyed(1, 2, 2), keyed(3, 2, 2)}, {keyed(2, 2, 2), keyed(3, 2, 2)},
		{keyed(1, 9, 9), keyed(2, 2, 2)}, {keyed(2, 9, 9), keyed(3, 2, 2)}, {keyed(2, impl.MaxId, impl.MaxId), keyed(3, 0, 0)},
		{keyed(1, 2, 2), keyed(1, 3, 3)}, {keyed(1, 0, 0), keyed(1, impl.MaxId, impl.MaxId)},
		{keyed(2, 2, 2), keyed(2, 3, 2)}, {keyed(2, 2, 9), keyed(2, 3, 1)}, {keyed(3, 9, impl.MaxId), keyed(3, 10, 0)},
		{keyed(2, 2, 2), keyed(2, 2, 3)}, {keyed(3, 2, 9), keyed(3, 2, 10)}, {keyed(3, 5, 0), keyed(3, 5, impl.MaxId)},
	}
	first, last := entry(keyed(1, 0, 0), 5), entry(keyed(3, impl.MaxId, impl.MaxId), 5)
	for i, p := range pairs {
		name, low, high := "pair "+strconv.Itoa(i), entry(p[0], 9), entry(p[1], 3)
		wantBaseFault(t, name, baseAt(9, low, high), impl.OK)
		wantBaseFault(t, name+", turned round", baseAt(9, high, low), impl.ErrForm)
		wantBaseFault(t, name+", the lower one twice", baseAt(9, low, low), impl.ErrForm)
		wantBaseFault(t, name+", the higher one twice", baseAt(9, low, high, high), impl.ErrForm)
		wantBaseFault(t, name+", turned round behind another one", baseAt(9, first, high, low), impl.ErrForm)
		wantBaseFault(t, name+", turned round ahead of another one", baseAt(9, high, low, last), impl.ErrForm)
		newer := entry(with(p[0], sequenced(9), aged(8)), 2)
		wantBaseFault(t, name+", of one Key, with all else different", baseAt(9, low, newer), impl.ErrForm)
		wantBaseFault(t, name+", with the lower one again", baseAt(9, low, high, newer), impl.ErrForm)
	}
	full := manyEntries(9, impl.MaxEntries)
	slices.Reverse(full)
	wantBaseFault(t, "as many as there may be, falling", baseAt(9, full...), impl.ErrForm)
}

func TestP6NewBase(t *testing.T) {
	for _, now := range []int64{0, 1, 500, impl.MaxTime - 1, impl.MaxTime} {
		wantBase(t, "at "+strconv.FormatInt(now, 10), impl.NewBase(now), impl.BaseResult{Base: baseAt(now)})
	}
	for _, now := range []int64{-1, -2, impl.MaxTime + 1, impl.MaxTime + 2, 1 << 32, math.MinInt64, math.MaxInt64} {
		wantBaseCode(t, "at "+strconv.FormatInt(now, 10), impl.NewBase(now), impl.ErrRange)
	}
}

func TestP6LookupLsaTellsTheAgeNow(t *testing.T) {
	for _, b := range bases() {
		for at, e := range b.Entries {
			wantFound(t, baseName(b), impl.LookupLsa(b, e.Lsa.Key), with(e.Lsa, aged(plainAge(b, at))))
		}
	}
	l := with(keyed(2, 4, 5), aged(100), sequenced(9), optioned(2))
	wantFound(t, "put there earlier", impl.LookupLsa(baseAt(60, entry(l, 10)), l.Key), with(l, aged(150)))
	wantFound(t, "put there now", impl.LookupLsa(baseAt(60, entry(l, 60)), l.Key), l)
	wantFound(t, "put there at first", impl.LookupLsa(baseAt(3499, entry(l, 0)), l.Key), with(l, aged(3599)))
}

func TestP6LookupLsaOfNone(t *testing.T) {
	for _, b := range bases() {
		for _, k := range []impl.Key{{}, {Type: 1, Id: 9, Adv: 9}, {Type: 2, Id: 5, Adv: 5}, {Type: 3, Id: impl.MaxId, Adv: impl.MaxId}, {Type: -1, Id: -1, Adv: math.MinInt64}} {
			wantLsaCode(t, baseName(b), impl.LookupLsa(b, k), impl.ErrNone)
		}
		for _, e := range b.Entries {
			for _, k := range []impl.Key{{Type: e.Lsa.Key.Type, Id: e.Lsa.Key.Id}, {Type: e.Lsa.Key.Type, Adv: e.Lsa.Key.Adv}, {Id: e.Lsa.Key.Id, Adv: e.Lsa.Key.Adv}} {
				wantLsaCode(t, baseName(b)+", a Key in part", impl.LookupLsa(b, k), impl.ErrNone)
			}
		}
	}
}

func TestP6InstallANewKey(t *testing.T) {
	b := baseAt(70, entry(keyed(1, 5, 5), 20), entry(with(keyed(2, 5, 5), aged(9)), 0), entry(keyed(2, 5, 7), 70), entry(keyed(3, 5, 5), 60))
	places := []struct {
		l  impl.Lsa
		at int
	}{
		{keyed(1, 0, 0), 0}, {keyed(1, 4, 4), 0}, {keyed(1, 6, 6), 1}, {keyed(2, 4, 99), 1}, {keyed(2, 5, 4), 1}, {keyed(2, 5, 6), 2},
		{keyed(2, 5, 8), 3}, {keyed(2, 6, 0), 3}, {keyed(3, 4, 9), 3}, {keyed(3, 5, 4), 3}, {keyed(3, 5, 6), 4}, {keyed(3, impl.MaxId, impl.MaxId), 4},
	}
	for _, p := range places {
		for _, age := range []int64{0, 1, 900, impl.MaxAge - 1} {
			l := with(p.l, aged(age), sequenced(impl.MinSeq))
			want := cloneBase(b)
			want.Entries = slices.Insert(want.Entries, p.at, entry(l, 70))
			wantBase(t, nameOf(l), impl.InstallLsa(b, l), impl.BaseResult{Base: want, Changed: true})
		}
	}
	for _, now := range []int64{0, 1, impl.MaxTime} {
		for _, l := range edgy() {
			if l.Age < impl.MaxAge {
				wantBase(t, "the only one", impl.InstallLsa(baseAt(now), l), impl.BaseResult{Base: baseAt(now, entry(l, now)), Changed: true})
			}
		}
	}
}

func TestP6InstallOfAKeyThatIsThere(t *testing.T) {
	seen := map[int64]int{}
	for _, there := range rivals() {
		if there.Age == impl.MaxAge || there.Seq != 0 {
			continue
		}
		b := baseAt(50, entry(keyed(1, 4, 4), 3), entry(there, 50), entry(keyed(1, 6, 6), 9))
		for _, l := range rivals() {
			want := plainInstall(b, l)
			seen[want.Code]++
			wantBase(t, nameOf(there)+" and "+nameOf(l), impl.InstallLsa(b, l), want)
		}
	}
	if len(seen) != 2 || seen[impl.OK] == 0 || seen[impl.ErrOld] == 0 {
		t.Errorf("codes by how often they were told: %v", seen)
	}
}

func TestP6InstallANewerOne(t *testing.T) {
	full := baseAt(80, manyEntries(80, impl.MaxEntries)...)
	few := baseAt(80, manyEntries(80, 3)...)
	for _, b := range []impl.Base{few, full} {
		for at, e := range b.Entries {
			l := with(keyed(e.Lsa.Key.Type, e.Lsa.Key.Id, e.Lsa.Key.Adv), sequenced(e.Lsa.Seq+1), aged(7))
			want := turnedAt(b, at, func(x *impl.Entry) { *x = entry(l, 80) })
			wantBase(t, "one newer", impl.InstallLsa(b, l), impl.BaseResult{Base: want, Changed: true})
			wantBaseCode(t, "one older", impl.InstallLsa(b, with(l, sequenced(e.Lsa.Seq-1))), impl.ErrOld)
			same := impl.LookupLsa(b, e.Lsa.Key).Lsa
			wantBaseCode(t, "the same", impl.InstallLsa(b, same), impl.ErrOld)
			wantBaseCode(t, "twice", impl.InstallLsa(impl.InstallLsa(b, l).Base, l), impl.ErrOld)
		}
	}
}

func TestP6InstallAsksTheAgeNow(t *testing.T) {
	l := keyed(2, 4, 5)
	for _, put := range []int64{0, 1, 1000} {
		there := entry(with(l, aged(100)), put)
		wantBaseCode(t, "as far apart as counts not", impl.InstallLsa(baseAt(put+800, there), l), impl.ErrOld)
		fresh := impl.BaseResult{Base: baseAt(put+801, entry(l, put+801)), Changed: true}
		wantBase(t, "one tick more", impl.InstallLsa(baseAt(put+801, there), l), fresh)
		wantBaseCode(t, "of the Age that it had", impl.InstallLsa(baseAt(put+801, there), with(l, aged(100))), impl.ErrOld)
		wantBaseCode(t, "of its age now", impl.InstallLsa(baseAt(put+801, there), with(l, aged(901))), impl.ErrOld)
	}
}

func TestP6InstallOfOneAsOldAsCanBe(t *testing.T) {
	for _, b := range bases() {
		for at, e := range b.Entries {
			want := impl.BaseResult{Base: without(b, at), Changed: true, Gone: []impl.Key{e.Lsa.Key}}
			end := with(e.Lsa, aged(impl.MaxAge))
			wantBase(t, baseName(b)+", flushed", impl.InstallLsa(b, end), want)
			wantBase(t, baseName(b)+", flushed by a newer one", impl.InstallLsa(b, with(end, sequenced(e.Lsa.Seq+1))), want)
			wantBaseCode(t, baseName(b)+", flushed by an older one", impl.InstallLsa(b, with(end, sequenced(e.Lsa.Seq-1))), impl.ErrOld)
		}
		for _, l := range []impl.Lsa{keyed(1, 2, 2), keyed(2, 99, 0), keyed(3, impl.MaxId, impl.MaxId)} {
			wantBase(t, baseName(b)+", flushed what is not there", impl.InstallLsa(b, with(l, aged(impl.MaxAge))), impl.BaseResult{Base: b})
		}
	}
}

func TestP6WhatWasFlushedMayComeAgain(t *testing.T) {
	l := with(keyed(3, 4, 5), sequenced(9))
	b := impl.InstallLsa(impl.NewBase(8).Base, l).Base
	b = impl.InstallLsa(b, with(l, aged(impl.MaxAge))).Base
	wantBase(t, "flushed twice", impl.InstallLsa(b, with(l, aged(impl.MaxAge))), impl.BaseResult{Base: baseAt(8)})
	older := with(l, sequenced(1), aged(5))
	wantBase(t, "an older one", impl.InstallLsa(b, older), impl.BaseResult{Base: baseAt(8, entry(older, 8)), Changed: true})
}

func TestP6InstallIntoAFullBase(t *testing.T) {
	for _, now := range []int64{0, 80, impl.MaxTime} {
		full := baseAt(now, manyEntries(now, impl.MaxEntries)...)
		last := baseAt(now, full.Entries[:impl.MaxEntries-1]...)
		for _, l := range []impl.Lsa{keyed(1, 2, 2), keyed(2, 99, 0), keyed(3, impl.MaxId, impl.MaxId)} {
			wantBaseCode(t, "no room", impl.InstallLsa(full, l), impl.ErrFull)
			wantBaseCode(t, "no room, at its last tick", impl.InstallLsa(full, with(l, aged(impl.MaxAge-1))), impl.ErrFull)
			wantBase(t, "the last room", impl.InstallLsa(last, l), plainInstall(last, l))
		}
	}
}

func TestP6InstallCodesAreAskedInOrder(t *testing.T) {
	full := baseAt(80, manyEntries(80, impl.MaxEntries)...)
	for code, list := range faulty() {
		for _, bad := range list {
			wantBaseCode(t, "a fault", impl.InstallLsa(baseAt(0), bad), code)
			wantBaseCode(t, "a fault, ahead of no room", impl.InstallLsa(full, bad), code)
			known := baseAt(9, entry(with(keyed(1, 5, 5), sequenced(9)), 9), entry(with(keyed(2, 5, 5), sequenced(9)), 9))
			wantBaseCode(t, "a fault, ahead of what is there", impl.InstallLsa(known, bad), code)
		}
	}
	wantBaseCode(t, "not newer, ahead of no room", impl.InstallLsa(full, with(full.Entries[3].Lsa, sequenced(impl.MinSeq))), impl.ErrOld)
	wantBaseCode(t, "not newer, ahead of the age MaxAge", impl.InstallLsa(full, with(full.Entries[3].Lsa, sequenced(impl.MinSeq), aged(impl.MaxAge))), impl.ErrOld)
	wantBase(t, "the age MaxAge, ahead of no room", impl.InstallLsa(full, with(keyed(1, 2, 2), aged(impl.MaxAge))), impl.BaseResult{Base: full})
}

func TestP6TheNewestToldIsThereInAnyOrder(t *testing.T) {
	var told []impl.Lsa
	for _, l := range []impl.Lsa{keyed(1, 5, 5), keyed(2, 5, 5), keyed(2, 5, 6), keyed(3, 5, 5)} {
		for _, seq := range []int64{impl.MinSeq, -1, 0, 1, impl.MaxSeq} {
			for _, options := range []int64{0, 1, 90} {
				told = append(told, with(l, sequenced(seq), optioned(options)))
			}
		}
	}
	newest := map[impl.Key]impl.Lsa{}
	for _, l := range told {
		if there, ok := newest[l.Key]; !ok || plainOrder(l, there) == 1 {
			newest[l.Key] = l
		}
	}
	for step := 1; step < len(told); step++ {
		// Such a step goes through all that was told, once each.
		if step%2 == 0 || step%3 == 0 || step%5 == 0 {
			continue
		}
		b := impl.NewBase(4).Base
		for i := range told {
			l := told[i*step%len(told)]
			if r := impl.InstallLsa(b, l); r.Code == impl.OK {
				b = r.Base
			}
		}
		if len(b.Entries) != len(newest) {
			t.Errorf("by steps of %d: %d entries", step, len(b.Entries))
		}
		for k, l := range newest {
			wantFound(t, "by steps of "+strconv.Itoa(step), impl.LookupLsa(b, k), l)
		}
	}
}

func TestP6RemoveLsa(t *testing.T) {
	for _, b := range bases() {
		for at, e := range b.Entries {
			r := impl.RemoveLsa(b, e.Lsa.Key)
			wantBase(t, baseName(b), r, impl.BaseResult{Base: without(b, at), Changed: true, Gone: []impl.Key{e.Lsa.Key}})
			wantBaseCode(t, baseName(b)+", twice", impl.RemoveLsa(r.Base, e.Lsa.Key), impl.ErrNone)
			wantLsaCode(t, baseName(b)+", asked then", impl.LookupLsa(r.Base, e.Lsa.Key), impl.ErrNone)
		}
		for _, k := range []impl.Key{{}, {Type: 1, Id: 2, Adv: 2}, {Type: 2, Id: 5, Adv: 5}, {Type: 3, Id: impl.MaxId, Adv: impl.MaxId}, {Type: math.MinInt64, Id: -1, Adv: math.MaxInt64}} {
			wantBaseCode(t, baseName(b)+", no such Key", impl.RemoveLsa(b, k), impl.ErrNone)
		}
	}
	b := baseAt(70, entry(keyed(1, 5, 5), 20), entry(with(keyed(2, 5, 5), aged(9)), 0), entry(keyed(2, 5, 7), 70))
	for at, want := range []impl.Base{baseAt(70, b.Entries[1], b.Entries[2]), baseAt(70, b.Entries[0], b.Entries[2]), baseAt(70, b.Entries[0], b.Entries[1])} {
		k := b.Entries[at].Lsa.Key
		wantBase(t, "of three", impl.RemoveLsa(b, k), impl.BaseResult{Base: want, Changed: true, Gone: []impl.Key{k}})
	}
	wantBase(t, "the only one", impl.RemoveLsa(baseAt(70, b.Entries[1]), b.Entries[1].Lsa.Key), impl.BaseResult{Base: baseAt(70), Changed: true, Gone: []impl.Key{b.Entries[1].Lsa.Key}})
}

func TestP6TickBase(t *testing.T) {
	for _, b := range bases() {
		for _, ticks := range []int64{0, 1, 2, 10, 899, 1800, impl.MaxAge - 1, impl.MaxAge} {
			wantBase(t, baseName(b)+" by "+strconv.FormatInt(ticks, 10), impl.TickBase(b, ticks), plainTick(b, ticks))
		}
		wantBase(t, baseName(b)+" by nothing", impl.TickBase(b, 0), impl.BaseResult{Base: b})
		for _, ticks := range []int64{-1, -2, -impl.MaxAge, impl.MaxAge + 1, impl.MaxAge + 2, impl.MaxTime, 1 << 40, math.MinInt64, math.MaxInt64} {
			wantBaseCode(t, baseName(b)+" by "+strconv.FormatInt(ticks, 10), impl.TickBase(b, ticks), impl.ErrRange)
		}
	}
}

func TestP6TickBaseAtTheLastTick(t *testing.T) {
	for _, age := range []int64{0, 1, 100, 3598, 3599} {
		l := with(keyed(2, 4, 5), aged(age))
		other := entry(keyed(3, 4, 5), 7)
		left := impl.MaxAge - age
		b := baseAt(7, entry(l, 7), other)
		wantBase(t, "one tick is left", impl.TickBase(b, left-1), impl.BaseResult{Base: baseAt(7+left-1, b.Entries[0], other)})
		gone := impl.BaseResult{Base: baseAt(7+left, other), Changed: true, Gone: []impl.Key{l.Key}}
		if age == 0 {
			gone = impl.BaseResult{Base: baseAt(7 + left), Changed: true, Gone: []impl.Key{l.Key, other.Lsa.Key}}
		}
		wantBase(t, "just then", impl.TickBase(b, left), gone)
		last := impl.TickBase(b, left-1).Base
		wantFound(t, "at its last tick", impl.LookupLsa(last, l.Key), with(l, aged(3599)))
		wantBase(t, "by one tick more", impl.TickBase(last, 1), gone)
	}
}

func TestP6TickBaseTellsAllThatGoInOrder(t *testing.T) {
	old := aged(impl.MaxAge - 5)
	b := baseAt(10, entry(with(keyed(1, 9, 9), old), 10), entry(with(keyed(2, 1, 7), aged(1)), 10), entry(with(keyed(2, 1, 8), aged(impl.MaxAge-7)), 8), entry(with(keyed(3, 0, 0), old), 10))
	gone := []impl.Key{b.Entries[0].Lsa.Key, b.Entries[2].Lsa.Key, b.Entries[3].Lsa.Key}
	wantBase(t, "one tick ahead", impl.TickBase(b, 4), impl.BaseResult{Base: baseAt(14, b.Entries...)})
	wantBase(t, "several at once", impl.TickBase(b, 5), impl.BaseResult{Base: baseAt(15, b.Entries[1]), Changed: true, Gone: gone})
	all := []impl.Key{gone[0], b.Entries[1].Lsa.Key, gone[1], gone[2]}
	wantBase(t, "all at once", impl.TickBase(b, impl.MaxAge), impl.BaseResult{Base: baseAt(10 + impl.MaxAge), Changed: true, Gone: all})
	full := baseAt(10, manyEntries(10, impl.MaxEntries)...)
	if r := impl.TickBase(full, impl.MaxAge); len(r.Gone) != impl.MaxEntries || len(r.Base.Entries) != 0 {
		t.Errorf("of a full base %d are gone, %d are there", len(r.Gone), len(r.Base.Entries))
	}
}

func TestP6TickBaseUpToMaxTime(t *testing.T) {
	for _, left := range []int64{0, 1, 2, 900, impl.MaxAge - 1} {
		now := impl.MaxTime - left
		for _, b := range []impl.Base{baseAt(now), baseAt(now, entry(keyed(2, 4, 5), now)), baseAt(now, manyEntries(now, impl.MaxEntries)...)} {
			wantBase(t, baseName(b)+", to the end", impl.TickBase(b, left), plainTick(b, left))
			wantBaseCode(t, baseName(b)+", one beyond", impl.TickBase(b, left+1), impl.ErrFull)
			wantBaseCode(t, baseName(b)+", far beyond", impl.TickBase(b, impl.MaxAge), impl.ErrFull)
			wantBaseCode(t, baseName(b)+", a range ahead of it", impl.TickBase(b, impl.MaxAge+1), impl.ErrRange)
			wantBaseCode(t, baseName(b)+", ticks below 0", impl.TickBase(b, -1), impl.ErrRange)
		}
	}
	wantBase(t, "by MaxAge to the end", impl.TickBase(baseAt(impl.MaxTime-impl.MaxAge), impl.MaxAge), impl.BaseResult{Base: baseAt(impl.MaxTime)})
}

func TestP6TickByPartsIsByTheWhole(t *testing.T) {
	parts := []int64{0, 1, 2, 899, 900, 1799, 1800}
	for _, b := range bases() {
		for _, p := range parts {
			for _, q := range parts {
				whole, first := impl.TickBase(b, p+q), impl.TickBase(b, p)
				second := impl.TickBase(first.Base, q)
				if first.Code != impl.OK {
					continue
				}
				gone := slices.Concat(first.Gone, second.Gone)
				slices.SortFunc(gone, plainCompare)
				got := impl.BaseResult{Code: second.Code, Base: second.Base, Changed: first.Changed || second.Changed, Gone: gone}
				if second.Code == impl.ErrFull {
					got = second
				}
				wantBase(t, baseName(b)+" by parts", got, whole)
			}
		}
	}
	b := baseAt(3, manyEntries(3, impl.MaxEntries)...)
	step := b
	for tick := int64(1); tick <= impl.MaxAge; tick++ {
		step = impl.TickBase(step, 1).Base
		if tick%97 == 0 || tick == impl.MaxAge {
			wantBase(t, "tick by tick", impl.BaseResult{Base: step}, impl.BaseResult{Base: impl.TickBase(b, tick).Base})
		}
	}
}

func TestP6AgesIn(t *testing.T) {
	for _, b := range bases() {
		r := impl.AgesIn(b)
		wantBase(t, baseName(b), r, plainAges(b))
		wantBase(t, baseName(b)+", twice", impl.AgesIn(r.Base), r)
		wantBaseFault(t, baseName(b)+", its fault", r.Base, impl.OK)
		for _, e := range b.Entries {
			wantFound(t, baseName(b)+", asked", impl.LookupLsa(r.Base, e.Lsa.Key), impl.LookupLsa(b, e.Lsa.Key).Lsa)
		}
		// What is told later does not hang on whether the ages were asked.
		for _, ticks := range []int64{0, 1, 900, 3599, 3600} {
			plain, asked := impl.TickBase(b, ticks), impl.TickBase(r.Base, ticks)
			if plain.Code == impl.OK {
				wantBase(t, baseName(b)+", later", impl.AgesIn(asked.Base), impl.AgesIn(plain.Base))
			}
			if !slices.Equal(plain.Gone, asked.Gone) || plain.Code != asked.Code {
				t.Errorf("%s, by %d: gone are %v, want %v", baseName(b), ticks, asked.Gone, plain.Gone)
			}
		}
	}
	l := with(keyed(3, 4, 5), aged(9), sequenced(-4), optioned(8))
	wantBase(t, "put there earlier", impl.AgesIn(baseAt(100, entry(l, 40))), impl.BaseResult{Base: baseAt(100, entry(with(l, aged(69)), 100))})
	wantBase(t, "an empty one", impl.AgesIn(baseAt(100)), impl.BaseResult{Base: baseAt(100)})
}

// chance makes numbers that look unordered but are the same in every run.
type chance uint64

func (c *chance) below(n int64) int64 {
	*c = *c*6364136223846793005 + 1442695040888963407
	return int64(uint64(*c) >> 33 % uint64(n))
}

func TestP6AnyTurnsAreThoseOfAPlainList(t *testing.T) {
	for seed := range chance(12) {
		c := seed
		b := impl.NewBase(c.below(2) * (impl.MaxTime - 20000)).Base
		// Of few Keys so many are told again; of many the base gets full.
		ids := []int64{3, 30}[c.below(2)]
		for range 250 {
			kind := 1 + c.below(3)
			l := keyed(kind, c.below(ids), c.below(2))
			l = with(l, sequenced(c.below(3)), optioned(c.below(2)), aged([]int64{0, 1, 1000, 3599, 3600}[c.below(5)]))
			var got, want impl.BaseResult
			switch c.below(8) {
			case 0:
				got, want = impl.RemoveLsa(b, l.Key), plainRemove(b, l.Key)
			case 1:
				ticks := []int64{0, 1, 40, 901, 2600}[c.below(5)]
				got, want = impl.TickBase(b, ticks), plainTick(b, ticks)
			default:
				got, want = impl.InstallLsa(b, l), plainInstall(b, l)
			}
			wantBase(t, baseName(b)+" and "+nameOf(l), got, want)
			if got.Code == impl.OK {
				b = got.Base
			}
			if code := impl.BaseFault(b); code != impl.OK {
				t.Fatalf("%s: what is there has the fault %d", baseName(b), code)
			}
		}
	}
}

func TestP6SameBases(t *testing.T) {
	for _, b := range append(bases(), oddBases()...) {
		if !impl.SameBases(b, b) || !impl.SameBases(b, cloneBase(b)) {
			t.Errorf("%s: not the same as itself", baseName(b))
		}
	}
	if !impl.SameBases(impl.Base{}, impl.Base{Entries: []impl.Entry{}}) || !impl.SameBases(impl.Base{Entries: []impl.Entry{}}, impl.Base{}) {
		t.Error("an empty list and nil are not the same")
	}
	empty := with(keyed(1, 2, 2), linked(), routed())
	filled := empty
	filled.Links, filled.Routers = []impl.Link{}, []int64{}
	if !impl.SameBases(baseAt(3, entry(empty, 3)), baseAt(3, entry(filled, 3))) {
		t.Error("empty lists in an entry and nil are not the same")
	}
}

func TestP6SameBasesOfOneFieldThatDiffers(t *testing.T) {
	full := with(routerLsa(5, point(6, 7, 8), transit(9, 10, 11)), routed(1, 2), masked(3), costing(4), optioned(5), aged(6), sequenced(7))
	turns := []func(e *impl.Entry){
		func(e *impl.Entry) { e.At++ }, func(e *impl.Entry) { e.At = -e.At }, func(e *impl.Entry) { e.Lsa.Age++ }, func(e *impl.Entry) { e.Lsa.Options++ },
		func(e *impl.Entry) { e.Lsa.Key.Type++ }, func(e *impl.Entry) { e.Lsa.Key.Id++ }, func(e *impl.Entry) { e.Lsa.Key.Adv++ },
		func(e *impl.Entry) { e.Lsa.Seq++ }, func(e *impl.Entry) { e.Lsa.Mask++ }, func(e *impl.Entry) { e.Lsa.Cost++ },
		func(e *impl.Entry) { e.Lsa.Links[1].Kind++ }, func(e *impl.Entry) { e.Lsa.Links[0].To++ }, func(e *impl.Entry) { e.Lsa.Links[1].Own++ },
		func(e *impl.Entry) { e.Lsa.Links[0].Cost++ }, func(e *impl.Entry) { e.Lsa.Links = e.Lsa.Links[:1] }, func(e *impl.Entry) { e.Lsa.Links = nil },
		func(e *impl.Entry) { e.Lsa.Routers[1]++ }, func(e *impl.Entry) { e.Lsa.Routers = e.Lsa.Routers[:1] }, func(e *impl.Entry) { slices.Reverse(e.Lsa.Links) },
	}
	// The full one has a fault, and so have the bases whose time is none.
	odd := []impl.Base{
		baseAt(9, entry(full, 4)), baseAt(-9, entry(full, 4), entry(full, 4)), baseAt(9, entry(keyed(1, 2, 2), 0), entry(full, 4), impl.Entry{}),
		baseAt(math.MaxInt64, slices.Repeat([]impl.Entry{entry(full, 4)}, 50)...),
	}
	for _, b := range odd {
		for at := range b.Entries {
			if len(b.Entries[at].Lsa.Routers) == 0 {
				continue
			}
			for i, turn := range turns {
				other := turnedAt(b, at, turn)
				if impl.SameBases(b, other) || impl.SameBases(other, b) {
					t.Errorf("%s: the same after turn %d at %d", baseName(b), i, at)
				}
			}
			if shorter := without(b, at); impl.SameBases(b, shorter) || impl.SameBases(shorter, b) {
				t.Errorf("%s: the same without %d", baseName(b), at)
			}
		}
		later := cloneBase(b)
		later.Now--
		if impl.SameBases(b, later) || impl.SameBases(later, b) {
			t.Errorf("%s: the same at another time", baseName(b))
		}
	}
	falling := baseAt(9, entry(keyed(2, 2, 2), 0), entry(keyed(1, 2, 2), 0))
	if impl.SameBases(falling, baseAt(9, falling.Entries[1], falling.Entries[0])) {
		t.Error("the same in another order")
	}
}

// oddBases are bases of any numbers and lists, most of them with faults.
func oddBases() []impl.Base {
	list := []impl.Base{{}, baseAt(5, impl.Entry{}), baseAt(5, make([]impl.Entry, 100000)...)}
	for i, n := range oddNumbers() {
		l := ordinary()[i%6]
		list = append(list, baseAt(n), baseAt(n, entry(l, 0)), baseAt(n, entry(l, n)), baseAt(4000, entry(l, n)), baseAt(n, entry(with(l, aged(n)), n)))
		for _, turn := range []func(n int64) func(l *impl.Lsa){aged, optioned, typed, identified, advertised, sequenced, masked, costing} {
			list = append(list, baseAt(4000, entry(with(l, turn(n)), 4000)))
		}
		list = append(list, baseAt(0, entry(keyed(2, 1, 1), 0), entry(with(keyed(2, 1, 1), identified(n)), 0)))
	}
	for kind := range int64(4) {
		long := impl.Lsa{Key: impl.Key{Type: kind}, Links: make([]impl.Link, 10000), Routers: make([]int64, 10000)}
		list = append(list, baseAt(3, entry(long, 3)), baseAt(3, slices.Repeat([]impl.Entry{entry(long, 3)}, 40)...))
	}
	return list
}

func TestP1EveryFunctionOfTheMapAnswers(t *testing.T) {
	for _, b := range oddBases() {
		code := impl.BaseFault(b)
		if code != impl.OK && code != impl.ErrForm && code != impl.ErrMany && code != impl.ErrRange {
			t.Errorf("%s: fault %d", baseName(b), code)
		}
		wantBaseFault(t, baseName(b), b, code)
	}
	b := baseAt(9, manyEntries(9, 7)...)
	for _, n := range oddNumbers() {
		if n < 0 || n > impl.MaxTime {
			wantBaseCode(t, "no time", impl.NewBase(n), impl.ErrRange)
		} else {
			wantBase(t, "a time", impl.NewBase(n), impl.BaseResult{Base: baseAt(n)})
		}
		if n < 0 || n > impl.MaxAge {
			wantBaseCode(t, "no ticks", impl.TickBase(b, n), impl.ErrRange)
		} else {
			wantBase(t, "ticks", impl.TickBase(b, n), plainTick(b, n))
		}
		for _, k := range []impl.Key{{Type: n, Id: n, Adv: -1}, {Type: 1, Id: n, Adv: 9}, {Type: n, Id: 10, Adv: 9}, {Type: -1, Id: 10, Adv: n}} {
			wantLsaCode(t, "no such Key", impl.LookupLsa(b, k), impl.ErrNone)
			wantBaseCode(t, "no such Key", impl.RemoveLsa(b, k), impl.ErrNone)
		}
	}
	for _, l := range oddLsas() {
		if code := impl.LsaFault(l); code != impl.OK {
			wantBaseCode(t, "an odd one", impl.InstallLsa(b, l), code)
			continue
		}
		wantBase(t, nameOf(l), impl.InstallLsa(b, l), plainInstall(b, l))
	}
}

// baseTurns are all functions of the chapter that answer a base of a base, with codes and without.
func baseTurns() []func(b impl.Base) impl.BaseResult {
	turns := []func(b impl.Base) impl.BaseResult{impl.AgesIn}
	for _, ticks := range []int64{-1, 0, 1, 900, impl.MaxAge} {
		turns = append(turns, func(b impl.Base) impl.BaseResult { return impl.TickBase(b, ticks) })
	}
	told := []impl.Lsa{
		keyed(1, 4, 4), keyed(2, 5, 6), keyed(3, 99, 99), with(keyed(1, 10, 10), sequenced(99)), with(keyed(2, 5, 6), sequenced(99)),
		with(keyed(3, 5, 6), sequenced(99), aged(impl.MaxAge)), with(keyed(1, 3, 3), aged(impl.MaxAge)), {},
	}
	for _, l := range told {
		turns = append(turns, func(b impl.Base) impl.BaseResult { return impl.InstallLsa(b, l) })
		turns = append(turns, func(b impl.Base) impl.BaseResult { return impl.RemoveLsa(b, l.Key) })
	}
	return turns
}

// roomyLsa and roomyBase have room behind the end of each list, in which something stands.
func roomyLsa(l impl.Lsa) impl.Lsa {
	l.Links = append(slices.Clone(l.Links), point(-91, -91, -91), point(-92, -92, -92))[:len(l.Links)]
	l.Routers = append(slices.Clone(l.Routers), -93, -94)[:len(l.Routers)]
	return l
}

func roomyBase(b impl.Base) impl.Base {
	b.Entries = append(slices.Clone(b.Entries), entry(keyed(3, 95, 95), 95), entry(keyed(3, 96, 96), 96))[:len(b.Entries)]
	for i, e := range b.Entries {
		b.Entries[i].Lsa = roomyLsa(e.Lsa)
	}
	return b
}

// wholeLsa and wholeBase are as long as their lists are with what was put behind them.
func wholeLsa(l impl.Lsa) impl.Lsa {
	l.Links, l.Routers = l.Links[:len(l.Links)+2], l.Routers[:len(l.Routers)+2]
	return cloneLsa(l)
}

func wholeBase(b impl.Base) impl.Base {
	n := len(b.Entries)
	b.Entries = slices.Clone(b.Entries[:n+2])
	for i, e := range b.Entries[:n] {
		b.Entries[i].Lsa = wholeLsa(e.Lsa)
	}
	return cloneBase(b)
}

func TestP1BasesAreNotChanged(t *testing.T) {
	faults := []impl.Base{
		baseAt(9, slices.Repeat(manyEntries(9, 1), 41)...), baseAt(9, entry(keyed(2, 1, 1), 0), entry(keyed(1, 1, 1), 0)),
		baseAt(9, entry(keyed(2, 1, 1), 10)), baseAt(-1, manyEntries(9, 3)...), baseAt(9, entry(routerLsa(1, manyLinks(9)...), 0)),
	}
	for _, b := range append(bases(), faults...) {
		given := roomyBase(b)
		before := wholeBase(given)
		for _, turn := range baseTurns() {
			turn(given)
		}
		impl.BaseFault(given)
		impl.LookupLsa(given, impl.Key{Type: 2, Id: 5, Adv: 6})
		impl.SameBases(given, b)
		impl.SameBases(b, given)
		if !isBase(given, b) || !isBase(wholeBase(given), before) {
			t.Errorf("%s: it was changed", baseName(b))
		}
	}
}

func spoilLsa(l impl.Lsa) {
	links, routers := l.Links[:cap(l.Links)], l.Routers[:cap(l.Routers)]
	for i := range links {
		links[i] = point(-66, -66, -66)
	}
	for i := range routers {
		routers[i] = -66
	}
}

// spoilBase turns all that the lists of a result have, and all that there is room for behind them.
func spoilBase(r impl.BaseResult) {
	for _, e := range r.Base.Entries[:cap(r.Base.Entries)] {
		spoilLsa(e.Lsa)
	}
	clear(r.Base.Entries[:cap(r.Base.Entries)])
	clear(r.Gone[:cap(r.Gone)])
}

func cloneBaseResult(r impl.BaseResult) impl.BaseResult {
	return impl.BaseResult{Code: r.Code, Base: cloneBase(r.Base), Changed: r.Changed, Gone: slices.Clone(r.Gone)}
}

func TestP1BasesAreNewMemory(t *testing.T) {
	for _, b := range bases() {
		for _, turn := range baseTurns() {
			given := roomyBase(b)
			before := wholeBase(given)
			first, second := turn(given), turn(given)
			want := cloneBaseResult(second)
			spoilBase(first)
			if !isBase(given, b) || !isBase(wholeBase(given), before) {
				t.Errorf("%s: an answer shares memory with its argument", baseName(b))
			}
			spoilBase(impl.BaseResult{Base: given})
			if !isBaseResult(second, want) {
				t.Errorf("%s: an answer hangs on its argument, or on another answer", baseName(b))
			}
		}
	}
	first := impl.NewBase(3)
	spoilBase(first)
	wantBase(t, "a new one", impl.NewBase(3), impl.BaseResult{Base: baseAt(3)})
}

func TestP1WhatIsInstalledIsNotChangedNorKept(t *testing.T) {
	for _, l := range edgy() {
		for _, b := range []impl.Base{baseAt(9), baseAt(9, manyEntries(9, 7)...), baseAt(9, entry(with(l, sequenced(impl.MinSeq), aged(0)), 3))} {
			given := roomyLsa(l)
			before := wholeLsa(given)
			first, second := impl.InstallLsa(b, given), impl.InstallLsa(b, given)
			want := cloneBaseResult(second)
			spoilBase(first)
			if !isLsa(given, l) || !isLsa(wholeLsa(given), before) {
				t.Errorf("%s: what is installed is changed, or shared", nameOf(l))
			}
			spoilLsa(given)
			if !isBaseResult(second, want) {
				t.Errorf("%s: the answer hangs on what was installed", nameOf(l))
			}
		}
	}
}

func TestP1WhatIsFoundIsNewMemory(t *testing.T) {
	for _, b := range bases() {
		for _, e := range b.Entries {
			given := roomyBase(b)
			before := wholeBase(given)
			first, second := impl.LookupLsa(given, e.Lsa.Key), impl.LookupLsa(given, e.Lsa.Key)
			want := cloneLsa(second.Lsa)
			spoilLsa(first.Lsa)
			if !isBase(given, b) || !isBase(wholeBase(given), before) {
				t.Errorf("%s: what is found shares memory with the base", baseName(b))
			}
			spoilBase(impl.BaseResult{Base: given})
			if !isLsa(second.Lsa, want) {
				t.Errorf("%s: what is found hangs on the base", baseName(b))
			}
		}
	}
}

func TestP1TheListsOfABaseShareNoMemory(t *testing.T) {
	links, routers := manyLinks(4), manyRouters(4)
	// Argument lists may share memory; those of an answer do not.
	shared := baseAt(9, entry(routerLsa(4, links...), 9), entry(routerLsa(10, links[:2]...), 1), entry(routerLsa(11, links[1:]...), 5),
		entry(networkLsa(5, 6, 7, routers...), 2), entry(networkLsa(5, 7, 7, routers[:2]...), 3), entry(networkLsa(5, 8, 7, routers[1:]...), 4))
	for _, b := range append(bases(), shared) {
		for _, turn := range baseTurns() {
			got := turn(b)
			want := cloneBaseResult(got)
			for at := range got.Base.Entries {
				spoilLsa(got.Base.Entries[at].Lsa)
				copy(got.Base.Entries[at].Lsa.Links, want.Base.Entries[at].Lsa.Links)
				copy(got.Base.Entries[at].Lsa.Routers, want.Base.Entries[at].Lsa.Routers)
				if !isBaseResult(got, want) {
					t.Fatalf("%s: the lists of entry %d share memory with another one", baseName(b), at)
				}
			}
		}
	}
	l := routerLsa(12, links...)
	got := impl.InstallLsa(shared, l)
	want := cloneBaseResult(got)
	spoilLsa(got.Base.Entries[3].Lsa)
	copy(got.Base.Entries[3].Lsa.Links, links)
	wantBase(t, "one that shares its links with what is there", got, want)
}

func TestP1BasesHangOnArgumentsAlone(t *testing.T) {
	others := []impl.Base{{}, baseAt(9, manyEntries(9, impl.MaxEntries)...), baseAt(impl.MaxTime), baseAt(3, entry(keyed(1, 1, 1), 4))}
	for i, b := range bases() {
		for _, turn := range baseTurns() {
			first := turn(b)
			turn(others[i%len(others)])
			wantBase(t, baseName(b)+", once more", turn(roomyBase(b)), first)
		}
		for _, e := range b.Entries {
			first := impl.LookupLsa(b, e.Lsa.Key)
			impl.LookupLsa(others[1], e.Lsa.Key)
			wantFound(t, baseName(b)+", asked once more", impl.LookupLsa(roomyBase(b), e.Lsa.Key), first.Lsa)
		}
	}
}
