package tests

import (
	"math"
	"reflect"
	"slices"
	"strconv"
	"testing"

	"loop.example/g00732/impl"
)

func config(shards int64, workers int64, caps ...int64) impl.Config {
	return impl.Config{Shards: shards, Workers: workers, Caps: caps}
}

// configs are without a fault: of each number of shards and of workers, with each number of queues.
func configs() []impl.Config {
	var list []impl.Config
	for shards := int64(1); shards <= impl.MaxShards; shards++ {
		for workers := int64(1); workers <= impl.MaxWorkers; workers++ {
			list = append(list, config(shards, workers), config(shards, workers, 1+shards), config(shards, workers, 1, impl.MaxCap))
		}
	}
	return list
}

func key(kind int64, id int64, adv int64) impl.Key {
	return impl.Key{Type: kind, Id: id, Adv: adv}
}

func installOp(l impl.Lsa) impl.Op {
	return impl.Op{Kind: impl.OpInstall, Data: impl.EncodeLsa(l).Bytes}
}

func bytesOp(data ...byte) impl.Op {
	return impl.Op{Kind: impl.OpInstall, Data: data}
}

func lookupOp(k impl.Key) impl.Op { return impl.Op{Kind: impl.OpLookup, Key: k} }
func removeOp(k impl.Key) impl.Op { return impl.Op{Kind: impl.OpRemove, Key: k} }
func tickOp(n int64) impl.Op      { return impl.Op{Kind: impl.OpTick, N: n} }
func snapOp() impl.Op             { return impl.Op{Kind: impl.OpSnap} }
func popOp(n int64) impl.Op       { return impl.Op{Kind: impl.OpPop, N: n} }

func call(worker int64, o impl.Op) []impl.Event {
	return []impl.Event{{Kind: impl.EvCall, Worker: worker, Op: o}}
}

func step(worker int64, n int) []impl.Event {
	return slices.Repeat([]impl.Event{{Kind: impl.EvStep, Worker: worker}}, n)
}

func shut() []impl.Event {
	return []impl.Event{{Kind: impl.EvShut}}
}

func tale(parts ...[]impl.Event) []impl.Event {
	return slices.Concat(parts...)
}

// whole is a call of the op and all its steps, where no other one holds a lock.
func whole(c impl.Config, worker int64, o impl.Op) []impl.Event {
	n := 4
	switch o.Kind {
	case impl.OpInstall:
		if impl.DecodeLsa(o.Data).Code != impl.OK {
			n = 1
		}
	case impl.OpTick:
		n = 3 + int(c.Shards)
	case impl.OpSnap:
		n = 1 + int(c.Shards)
	case impl.OpPop:
		n = 1
	}
	return tale(call(worker, o), step(worker, n))
}

// wholes are the ops one behind the other, all of one worker.
func wholes(c impl.Config, worker int64, list ...impl.Op) []impl.Event {
	var events []impl.Event
	for _, o := range list {
		events = append(events, whole(c, worker, o)...)
	}
	return events
}

// of is an advertisement of this Id that is in the shard.
func of(c impl.Config, shard int64, id int64, turns ...func(l *impl.Lsa)) impl.Lsa {
	adv := int64(0)
	for plainShard(c, key(impl.TypeSummary, id, adv)) != shard {
		adv++
	}
	return with(summaryLsa(id, adv, 255, 8), turns...)
}

// unlike is where two values differ, "" where they do not: an empty list and nil are the same.
func unlike(what string, a reflect.Value, b reflect.Value) string {
	switch a.Kind() {
	case reflect.Struct:
		for i := range a.NumField() {
			if s := unlike(what+"."+a.Type().Field(i).Name, a.Field(i), b.Field(i)); s != "" {
				return s
			}
		}
		return ""
	case reflect.Slice:
		if a.Len() != b.Len() {
			return what + " has " + strconv.Itoa(a.Len()) + ", want " + strconv.Itoa(b.Len())
		}
		for i := range a.Len() {
			if s := unlike(what+"["+strconv.Itoa(i)+"]", a.Index(i), b.Index(i)); s != "" {
				return s
			}
		}
		return ""
	}
	if !a.Equal(b) {
		return what + " is another one"
	}
	return ""
}

func alike[T any](a T, b T) bool {
	return unlike("", reflect.ValueOf(a), reflect.ValueOf(b)) == ""
}

// want asks field by field, so that what tells the same of two that differ does not hide it.
func want[T any](t *testing.T, what string, got T, wanted T) {
	t.Helper()
	if s := unlike("it", reflect.ValueOf(got), reflect.ValueOf(wanted)); s != "" {
		t.Errorf("%s: %s: got %v, want %v", what, s, got, wanted)
	}
}

// world is what has no code.
func world(t *testing.T, c impl.Config, events []impl.Event) impl.World {
	t.Helper()
	told := impl.RunWorld(c, events)
	if told.Code != impl.OK {
		t.Fatalf("%v: RunWorld tells code %d", c, told.Code)
	}
	return told.World
}

// firstWorld is the one behind no event.
func firstWorld(c impl.Config) impl.World {
	w := impl.World{Shards: make([]impl.Base, c.Shards), Workers: make([]impl.Worker, c.Workers)}
	w.Locks = slices.Repeat([]int64{impl.NoWorker}, int(c.Shards))
	for _, size := range c.Caps {
		w.Queues = append(w.Queues, queue(size))
	}
	return w
}

func wantWorldCode(t *testing.T, what string, got impl.WorldResult, code int64) {
	t.Helper()
	want(t, what, got, impl.WorldResult{Code: code})
}

// wantCodes asks the last codes of the world behind the events.
func wantCodes(t *testing.T, what string, c impl.Config, events []impl.Event, codes ...int64) {
	t.Helper()
	got := world(t, c, events).Codes
	if len(got) != len(events) || !slices.Equal(got[len(got)-len(codes):], codes) {
		t.Errorf("%s: got the codes %v, want %v at the end", what, got, codes)
	}
}

func wantLocks(t *testing.T, what string, w impl.World, locks ...int64) {
	t.Helper()
	want(t, what+": Locks", w.Locks, locks)
}

func wantPhases(t *testing.T, what string, w impl.World, phases ...int64) {
	t.Helper()
	for n, phase := range phases {
		if w.Workers[n].Phase != phase || !w.Workers[n].Busy {
			t.Errorf("%s: worker %d is busy %v, in phase %d, want phase %d", what, n, w.Workers[n].Busy, w.Workers[n].Phase, phase)
		}
	}
}

// What follows is the chapter anew, by one map alone: the shards are what is looked up in it.

func plainShard(c impl.Config, k impl.Key) int64 {
	return (k.Type + k.Id + k.Id + k.Id + k.Adv) % c.Shards
}

func plainPart(c impl.Config, b impl.Base, shard int64) impl.Base {
	part := baseAt(b.Now)
	for _, e := range b.Entries {
		if plainShard(c, e.Lsa.Key) == shard {
			part.Entries = append(part.Entries, e)
		}
	}
	return part
}

type plainSite struct {
	c    impl.Config
	w    impl.World
	all  impl.Base
	then map[int64]impl.Base
}

func plainWorld(c impl.Config, events []impl.Event) impl.World {
	p := &plainSite{c: c, w: firstWorld(c), then: map[int64]impl.Base{}}
	for at, e := range events {
		p.w.Codes = append(p.w.Codes, p.take(int64(at), e))
	}
	for shard := range c.Shards {
		p.w.Shards[shard] = plainPart(c, p.all, shard)
	}
	return p.w
}

func (p *plainSite) take(at int64, e impl.Event) int64 {
	if code := impl.EventFault(e); code != impl.OK {
		return code
	}
	switch {
	case e.Kind == impl.EvShut:
		p.w.Closed = true
		return impl.OK
	case e.Worker >= p.c.Workers, e.Kind == impl.EvCall && e.Op.Kind == impl.OpPop && e.Op.N >= int64(len(p.c.Caps)):
		return impl.ErrNone
	case e.Kind == impl.EvCall && p.w.Closed:
		return impl.ErrClosed
	case p.w.Workers[e.Worker].Busy != (e.Kind == impl.EvStep):
		return impl.ErrState
	case e.Kind == impl.EvCall:
		p.w.Workers[e.Worker] = impl.Worker{Busy: true, Op: e.Op, Called: at}
	default:
		p.step(at, e.Worker)
	}
	return impl.OK
}

func (p *plainSite) step(at int64, n int64) {
	w := &p.w.Workers[n]
	switch {
	case w.Op.Kind == impl.OpPop:
		told := plainPop(p.w.Queues[w.Op.N])
		w.Answer = impl.Answer{Code: told.Code, Mark: told.Mark, Items: told.Items}
		if told.Code == impl.OK {
			p.w.Queues[w.Op.N] = told.Queue
		}
		p.note(at, n)
		p.end(at, n)
	case w.Op.Kind == impl.OpSnap && w.Phase == 0:
		p.then[n] = p.all
		w.Answer.Base = plainAges(p.all).Base
		p.note(at, n)
		w.Phase = 1
	case w.Op.Kind == impl.OpSnap:
		w.Pages = append(w.Pages, plainPart(p.c, p.then[n], int64(len(w.Pages))))
		if len(w.Pages) == int(p.c.Shards) {
			p.end(at, n)
		}
	case w.Phase == 0:
		w.Phase = 1
		if w.Op.Kind == impl.OpInstall {
			if w.Answer.Code = impl.DecodeLsa(w.Op.Data).Code; w.Answer.Code != impl.OK {
				p.end(at, n)
			}
		}
	case w.Phase == 1:
		p.lock(n)
	case w.Phase == 2:
		p.act(n)
		p.note(at, n)
		w.Phase = 3
	default:
		for shard, holder := range p.w.Locks {
			if holder == n {
				p.w.Locks[shard] = impl.NoWorker
			}
		}
		p.end(at, n)
	}
}

func (p *plainSite) lock(n int64) {
	w := &p.w.Workers[n]
	first, last := int64(0), p.c.Shards-1
	switch w.Op.Kind {
	case impl.OpInstall:
		first = plainShard(p.c, impl.DecodeLsa(w.Op.Data).Lsa.Key)
		last = first
	case impl.OpLookup, impl.OpRemove:
		first = plainShard(p.c, w.Op.Key)
		last = first
	default:
		for p.w.Locks[first] == n {
			first++
		}
	}
	if p.w.Locks[first] != impl.NoWorker {
		return
	}
	p.w.Locks[first] = n
	if first == last {
		w.Phase = 2
	}
}

func (p *plainSite) act(n int64) {
	w := &p.w.Workers[n]
	var told impl.BaseResult
	switch w.Op.Kind {
	case impl.OpLookup:
		w.Answer.Code = impl.ErrNone
		if at := plainFind(p.all, w.Op.Key); at >= 0 {
			w.Answer = impl.Answer{Lsa: plainAges(p.all).Base.Entries[at].Lsa}
		}
		return
	case impl.OpRemove:
		told = plainRemove(p.all, w.Op.Key)
	case impl.OpTick:
		told = plainTick(p.all, w.Op.N)
	case impl.OpInstall:
		l := impl.DecodeLsa(w.Op.Data).Lsa
		told = plainInstall(p.all, l)
		if told.Changed && l.Age < impl.MaxAge {
			told.Gone = []impl.Key{l.Key}
		}
	}
	w.Answer = impl.Answer{Code: told.Code, Changed: told.Changed}
	if told.Code != impl.OK {
		return
	}
	p.all = told.Base
	for _, k := range told.Gone {
		p.w.Rev++
		for at, q := range p.w.Queues {
			p.w.Queues[at] = plainPush(q, impl.Item{Key: k, Rev: p.w.Rev}).Queue
		}
	}
}

func (p *plainSite) note(at int64, n int64) {
	w := p.w.Workers[n]
	p.w.Log = append(p.w.Log, impl.LogEntry{Worker: n, Called: w.Called, At: at, Op: w.Op, Answer: w.Answer})
}

func (p *plainSite) end(at int64, n int64) {
	w := p.w.Workers[n]
	p.w.Done = append(p.w.Done, impl.Finished{Worker: n, Called: w.Called, At: at, Answer: w.Answer})
	p.w.Workers[n] = impl.Worker{}
}

// randomOp is an op of a few Keys, now and then one that cannot be read or has a fault.
func randomOp(c *chance) impl.Op {
	l := keyed(1+c.below(3), c.below(4), c.below(3))
	l = with(l, sequenced(c.below(4)), aged([]int64{0, 7, 2000, 3500, impl.MaxAge}[c.below(5)]))
	switch c.below(12) {
	case 0, 1:
		return removeOp(l.Key)
	case 2:
		return lookupOp(l.Key)
	case 3:
		return tickOp([]int64{1, 90, 1000}[c.below(3)])
	case 4:
		return snapOp()
	case 5, 6:
		return popOp(c.below(3))
	case 7:
		o := installOp(l)
		o.Data[c.below(int64(len(o.Data)))]++
		return o
	case 8:
		return []impl.Op{{}, tickOp(0), tickOp(1001), lookupOp(key(4, 1, 1)), bytesOp(filled(401, 1)...), {Kind: 2, N: 1}}[c.below(6)]
	}
	return installOp(l)
}

// randomTale has workers that are called and picked in any turns; shut is how seldom it is closed.
func randomTale(c *chance, conf impl.Config, n int, shut int64) []impl.Event {
	var list []impl.Event
	for range n {
		// Now and then there is no such worker.
		worker := c.below(conf.Workers)
		if c.below(30) == 0 {
			worker = c.below(6) - 1
		}
		switch {
		case c.below(shut) == 0:
			list = append(list, impl.Event{Kind: impl.EvShut})
		case c.below(5) == 0:
			list = append(list, call(worker, randomOp(c))...)
		default:
			list = append(list, step(worker, 1)...)
		}
	}
	return list
}

func anyConfig(c *chance) impl.Config {
	list := configs()
	return list[c.below(int64(len(list)))]
}

func TestWorldConstantsHaveTheirNumbers(t *testing.T) {
	if impl.MaxShards != 4 || impl.MaxWorkers != 4 || impl.MaxSubs != 2 || impl.MaxEvents != 200 || impl.NoWorker != -1 {
		t.Error("a bound has another number")
	}
	if impl.OpInstall != 1 || impl.OpLookup != 2 || impl.OpRemove != 3 || impl.OpTick != 4 || impl.OpSnap != 5 || impl.OpPop != 6 {
		t.Error("a kind of an op has another number")
	}
	if impl.EvCall != 1 || impl.EvStep != 2 || impl.EvShut != 3 {
		t.Error("a kind of an event has another number")
	}
}

// wantConfigFault asks the fault of c of all that tell it, ahead of what else may be wrong.
func wantConfigFault(t *testing.T, what string, c impl.Config, code int64) {
	t.Helper()
	if got := impl.ConfigFault(c); got != code {
		t.Errorf("%s: ConfigFault is %d, want %d", what, got, code)
	}
	if code == impl.OK {
		want(t, what+", no events", impl.RunWorld(c, nil), impl.WorldResult{World: firstWorld(c)})
		return
	}
	for _, k := range []impl.Key{key(1, 2, 3), {}, key(4, -1, impl.MaxId+1)} {
		wantInt(t, what+", ShardOf", impl.ShardOf(c, k), impl.IntResult{Code: code})
	}
	for _, events := range [][]impl.Event{nil, call(0, snapOp()), call(9, impl.Op{}), step(0, impl.MaxEvents+1)} {
		wantWorldCode(t, what+", RunWorld", impl.RunWorld(c, events), code)
	}
}

func TestP9ConfigFaultOfNone(t *testing.T) {
	for _, c := range configs() {
		wantConfigFault(t, "a sound one", c, impl.OK)
	}
	for size := int64(1); size <= impl.MaxCap; size++ {
		wantConfigFault(t, "a Cap", config(1, 1, size), impl.OK)
		wantConfigFault(t, "two Caps", config(4, 4, size, 9-size), impl.OK)
	}
	wantConfigFault(t, "a list that is empty, and not nil", impl.Config{Shards: 1, Workers: 1, Caps: []int64{}}, impl.OK)
}

func TestP9ConfigFaultRangeOfShardsAndWorkers(t *testing.T) {
	wantConfigFault(t, "nothing at all", impl.Config{}, impl.ErrRange)
	for _, n := range []int64{0, -1, -4, 5, 6, 1 << 32, math.MinInt64, math.MaxInt64} {
		name := strconv.FormatInt(n, 10)
		for _, caps := range [][]int64{nil, {1, 8}, {1, 2, 3}, {0}, {0, 9, 9}} {
			wantConfigFault(t, name+" shards", config(n, 1, caps...), impl.ErrRange)
			wantConfigFault(t, name+" workers", config(4, n, caps...), impl.ErrRange)
			wantConfigFault(t, name+" of both", config(n, n, caps...), impl.ErrRange)
		}
	}
}

func TestP9ConfigFaultManyCaps(t *testing.T) {
	for _, caps := range [][]int64{{1, 1, 1}, {1, 2, 3}, {8, 8, 8, 8}, {0, 1, 2}, {1, 2, 9}, {1, 0, 2}, make([]int64, 100000)} {
		wantConfigFault(t, strconv.Itoa(len(caps))+" Caps", config(1, 1, caps...), impl.ErrMany)
		wantConfigFault(t, strconv.Itoa(len(caps))+" Caps", config(4, 4, caps...), impl.ErrMany)
	}
}

func TestP9ConfigFaultRangeOfACap(t *testing.T) {
	for _, size := range []int64{0, -1, -8, impl.MaxCap + 1, impl.MaxCap + 2, 1 << 32, math.MinInt64, math.MaxInt64} {
		name := "the Cap " + strconv.FormatInt(size, 10)
		wantConfigFault(t, name, config(1, 1, size), impl.ErrRange)
		wantConfigFault(t, name+" ahead of a sound one", config(2, 2, size, 1), impl.ErrRange)
		wantConfigFault(t, name+" behind a sound one", config(4, 4, 8, size), impl.ErrRange)
		wantConfigFault(t, name+" twice", config(1, 1, size, size), impl.ErrRange)
	}
}

// soundOps are without a fault, of each Kind at the edges of what it needs.
func soundOps() []impl.Op {
	list := []impl.Op{bytesOp(), bytesOp(0), bytesOp(filled(impl.MaxBytes-1, 7)...), bytesOp(filled(impl.MaxBytes, 0)...), {Kind: impl.OpInstall, Data: []byte{}}}
	for _, l := range ordinary() {
		list = append(list, installOp(l))
	}
	for _, k := range soundKeys() {
		list = append(list, lookupOp(k), removeOp(k))
	}
	for _, n := range []int64{1, 2, 500, 999, 1000} {
		list = append(list, tickOp(n))
	}
	return append(list, snapOp(), popOp(0), popOp(1), impl.Op{Kind: impl.OpSnap, Data: []byte{}})
}

func soundKeys() []impl.Key {
	list := []impl.Key{key(1, 2, 3), key(2, 1, 1), key(3, 9, 8)}
	for kind := int64(1); kind <= 3; kind++ {
		for _, id := range []int64{0, 1, 5, 6, impl.MaxId - 1, impl.MaxId} {
			for _, adv := range []int64{0, 1, 2, 3, impl.MaxId - 1, impl.MaxId} {
				list = append(list, key(kind, id, adv))
			}
		}
	}
	return list
}

// noKeys are out of bounds in some of their numbers.
func noKeys() []impl.Key {
	list := []impl.Key{{}, key(0, 5, 5), key(4, 5, 5), key(-1, 5, 5), key(5, 5, 5), key(0, -1, -1), key(4, impl.MaxId+1, impl.MaxId+1)}
	for _, n := range []int64{-1, -2, impl.MaxId + 1, impl.MaxId + 2, 1 << 40, math.MinInt64, math.MaxInt64} {
		list = append(list, key(n, 5, 5), key(1, n, 5), key(2, 5, n), key(3, n, n), key(n, n, n))
	}
	return list
}

func opName(o impl.Op) string {
	return "an op of Kind " + strconv.FormatInt(o.Kind, 10) + ", " + strconv.Itoa(len(o.Data)) + " bytes, N " + strconv.FormatInt(o.N, 10)
}

// wantOpFault asks the fault of o, of a call of it, and of what a worker is called for.
func wantOpFault(t *testing.T, what string, o impl.Op, code int64) {
	t.Helper()
	if got := impl.OpFault(o); got != code {
		t.Errorf("%s: OpFault is %d, want %d", what, got, code)
	}
	for worker := range int64(impl.MaxWorkers) {
		if got := impl.EventFault(call(worker, o)[0]); got != code {
			t.Errorf("%s: EventFault of a call is %d, want %d", what, got, code)
		}
	}
	wanted := firstWorld(config(2, 1, 1, 1))
	wanted.Codes = []int64{code}
	if code == impl.OK {
		wanted.Workers[0] = impl.Worker{Busy: true, Op: o}
	}
	want(t, what+", called", world(t, config(2, 1, 1, 1), call(0, o)), wanted)
}

func TestP9OpFaultOfNone(t *testing.T) {
	for _, o := range soundOps() {
		wantOpFault(t, opName(o), o, impl.OK)
	}
}

func TestP9OpFaultFormOfKind(t *testing.T) {
	for _, kind := range []int64{0, -1, -2, 7, 8, 256 + 1, 1<<32 + 1, math.MinInt64, math.MaxInt64} {
		for _, o := range append(soundOps(), impl.Op{}, tickOp(-1), lookupOp(key(9, 9, 9)), bytesOp(make([]byte, 401)...)) {
			o.Kind = kind
			wantOpFault(t, opName(o), o, impl.ErrForm)
		}
	}
}

func TestP9OpFaultFormOfWhatIsNotNeeded(t *testing.T) {
	data := map[string]func(o *impl.Op){
		"a byte":         func(o *impl.Op) { o.Data = []byte{0} },
		"bytes":          func(o *impl.Op) { o.Data = []byte{1, 2, 3} },
		"too many bytes": func(o *impl.Op) { o.Data = make([]byte, impl.MaxBytes+1) },
	}
	keys, numbers := map[string]func(o *impl.Op){}, map[string]func(o *impl.Op){}
	for _, n := range []int64{1, -1, 3, 1000, 1001, math.MinInt64, math.MaxInt64} {
		name := strconv.FormatInt(n, 10)
		keys["the Type "+name] = func(o *impl.Op) { o.Key.Type = n }
		keys["the Id "+name] = func(o *impl.Op) { o.Key.Id = n }
		keys["the Adv "+name] = func(o *impl.Op) { o.Key.Adv = n }
		keys["the Key "+name] = func(o *impl.Op) { o.Key = key(n, n, n) }
		numbers["the N "+name] = func(o *impl.Op) { o.N = n }
	}
	unneeded := map[int64][]map[string]func(o *impl.Op){
		impl.OpInstall: {keys, numbers}, impl.OpLookup: {data, numbers}, impl.OpRemove: {data, numbers},
		impl.OpTick: {data, keys}, impl.OpSnap: {data, keys, numbers}, impl.OpPop: {data, keys},
	}
	// Those that have another fault, too, are asked behind it.
	others := []impl.Op{bytesOp(make([]byte, impl.MaxBytes+1)...), lookupOp(key(0, 0, 0)), removeOp(key(1, -1, 0)), tickOp(0), tickOp(1001), popOp(-1), popOp(2)}
	for _, o := range append(soundOps(), others...) {
		for _, turns := range unneeded[o.Kind] {
			for name, turn := range turns {
				other := o
				turn(&other)
				wantOpFault(t, opName(o)+" with "+name, other, impl.ErrForm)
			}
		}
	}
}

func TestP9OpFaultRange(t *testing.T) {
	for _, k := range noKeys() {
		wantOpFault(t, "a lookup of no Key", lookupOp(k), impl.ErrRange)
		wantOpFault(t, "a remove of no Key", removeOp(k), impl.ErrRange)
	}
	for _, n := range []int64{0, -1, -1000, 1001, 1002, 1 << 32, math.MinInt64, math.MaxInt64} {
		wantOpFault(t, opName(tickOp(n)), tickOp(n), impl.ErrRange)
	}
	for _, n := range []int64{-1, -2, 2, 3, 1 << 32, math.MinInt64, math.MaxInt64} {
		wantOpFault(t, opName(popOp(n)), popOp(n), impl.ErrRange)
	}
}

func TestP9OpFaultManyBytes(t *testing.T) {
	for _, n := range []int{impl.MaxBytes + 1, impl.MaxBytes + 2, 1000000} {
		wantOpFault(t, "a byte more", bytesOp(make([]byte, n)...), impl.ErrMany)
	}
	wantOpFault(t, "an advertisement and far more bytes", bytesOp(append(installOp(keyed(1, 1, 1)).Data, make([]byte, 400)...)...), impl.ErrMany)
}

// wantEventFault asks the fault of e, and what code it has where all else would do.
func wantEventFault(t *testing.T, what string, e impl.Event, code int64) {
	t.Helper()
	if got := impl.EventFault(e); got != code {
		t.Errorf("%s: EventFault is %d, want %d", what, got, code)
	}
	if code == impl.OK {
		return
	}
	c := config(2, 4, 1, 1)
	wanted := firstWorld(c)
	wanted.Codes = []int64{code}
	want(t, what, world(t, c, []impl.Event{e}), wanted)
}

func TestP9EventFaultOfNone(t *testing.T) {
	for worker := range int64(impl.MaxWorkers) {
		for _, o := range soundOps() {
			wantEventFault(t, "a call", impl.Event{Kind: impl.EvCall, Worker: worker, Op: o}, impl.OK)
		}
		wantEventFault(t, "a step", impl.Event{Kind: impl.EvStep, Worker: worker}, impl.OK)
		wantEventFault(t, "a step with Data that are empty, and not nil", impl.Event{Kind: impl.EvStep, Worker: worker, Op: impl.Op{Data: []byte{}}}, impl.OK)
	}
	wantEventFault(t, "a shut", impl.Event{Kind: impl.EvShut}, impl.OK)
	wantEventFault(t, "a shut with Data that are empty, and not nil", impl.Event{Kind: impl.EvShut, Op: impl.Op{Data: []byte{}}}, impl.OK)
}

func TestP9EventFaultFormOfKind(t *testing.T) {
	for _, kind := range []int64{0, -1, 4, 5, 1<<32 + 1, math.MinInt64, math.MaxInt64} {
		for _, worker := range []int64{0, 3, -1, 4} {
			for _, o := range []impl.Op{{}, snapOp(), tickOp(0)} {
				wantEventFault(t, "no Kind", impl.Event{Kind: kind, Worker: worker, Op: o}, impl.ErrForm)
			}
		}
	}
}

func TestP9EventFaultFormOfWhatIsNotNeeded(t *testing.T) {
	var unneeded []impl.Op
	for _, n := range []int64{1, -1, 6, 7, math.MinInt64, math.MaxInt64} {
		unneeded = append(unneeded, impl.Op{Kind: n}, impl.Op{Key: key(n, 0, 0)}, impl.Op{Key: key(0, n, 0)}, impl.Op{Key: key(0, 0, n)}, impl.Op{N: n})
	}
	unneeded = append(unneeded, impl.Op{Data: []byte{0}}, impl.Op{Data: make([]byte, 500)}, snapOp(), tickOp(1), installOp(keyed(1, 1, 1)))
	for _, o := range unneeded {
		for _, worker := range []int64{0, 1, 3, -1, 4, math.MaxInt64} {
			wantEventFault(t, "a step with "+opName(o), impl.Event{Kind: impl.EvStep, Worker: worker, Op: o}, impl.ErrForm)
			wantEventFault(t, "a shut with "+opName(o), impl.Event{Kind: impl.EvShut, Worker: worker, Op: o}, impl.ErrForm)
		}
	}
	for _, worker := range []int64{1, 2, 3, 4, 5, -1, math.MinInt64, math.MaxInt64} {
		wantEventFault(t, "a shut of a worker", impl.Event{Kind: impl.EvShut, Worker: worker}, impl.ErrForm)
	}
}

func TestP9EventFaultRangeOfWorker(t *testing.T) {
	for _, worker := range []int64{-1, -2, 4, 5, 1 << 32, math.MinInt64, math.MaxInt64} {
		wantEventFault(t, "a step", impl.Event{Kind: impl.EvStep, Worker: worker}, impl.ErrRange)
		for _, o := range append(soundOps(), impl.Op{}, impl.Op{Kind: 7}, bytesOp(make([]byte, 401)...), snapOp(), impl.Op{Kind: impl.OpSnap, N: 1}) {
			wantEventFault(t, "a call", impl.Event{Kind: impl.EvCall, Worker: worker, Op: o}, impl.ErrRange)
		}
	}
}

func TestP9EventFaultOfACall(t *testing.T) {
	faults := map[int64][]impl.Op{
		impl.ErrForm:  {{}, {Kind: 7}, {Kind: impl.OpSnap, N: 1}, {Kind: impl.OpTick, N: 0, Data: []byte{1}}, {Kind: -1}},
		impl.ErrRange: {tickOp(0), tickOp(1001), lookupOp(impl.Key{}), removeOp(key(1, 1, -1)), popOp(2)},
		impl.ErrMany:  {bytesOp(make([]byte, 401)...)},
	}
	for code, list := range faults {
		for _, o := range list {
			for worker := range int64(impl.MaxWorkers) {
				wantEventFault(t, opName(o), impl.Event{Kind: impl.EvCall, Worker: worker, Op: o}, code)
			}
		}
	}
}

func TestP9ShardOf(t *testing.T) {
	for _, c := range configs() {
		seen := map[int64]bool{}
		for _, k := range soundKeys() {
			got := impl.ShardOf(c, k)
			wantInt(t, "a Key", got, impl.IntResult{Value: plainShard(c, k)})
			seen[got.Value] = true
		}
		if len(seen) != int(c.Shards) {
			t.Errorf("%d shards: Keys are in %d of them", c.Shards, len(seen))
		}
		for _, k := range noKeys() {
			wantInt(t, "no Key", impl.ShardOf(c, k), impl.IntResult{Code: impl.ErrRange})
		}
	}
	c := config(4, 1)
	wantInt(t, "the Type", impl.ShardOf(c, key(1, 0, 0)), impl.IntResult{Value: 1})
	wantInt(t, "the Id three times", impl.ShardOf(c, key(1, 1, 0)), impl.IntResult{Value: 0})
	wantInt(t, "the Id six times", impl.ShardOf(c, key(1, 2, 0)), impl.IntResult{Value: 3})
	wantInt(t, "the Adv once", impl.ShardOf(c, key(1, 2, 3)), impl.IntResult{Value: 2})
	wantInt(t, "the highest", impl.ShardOf(config(3, 1), key(3, impl.MaxId, impl.MaxId)), impl.IntResult{Value: 0})
	wantInt(t, "one shard", impl.ShardOf(config(1, 4, 8), key(3, 17, 5)), impl.IntResult{Value: 0})
}

func TestP9MergeShardsHowMany(t *testing.T) {
	wantBaseCode(t, "none", impl.MergeShards(nil), impl.ErrMany)
	wantBaseCode(t, "none", impl.MergeShards([]impl.Base{}), impl.ErrMany)
	for n := 1; n <= impl.MaxShards; n++ {
		wantBase(t, "empty ones", impl.MergeShards(slices.Repeat([]impl.Base{baseAt(7)}, n)), impl.BaseResult{Base: baseAt(7)})
	}
	for _, n := range []int{impl.MaxShards + 1, impl.MaxShards + 2, 100000} {
		wantBaseCode(t, "more", impl.MergeShards(slices.Repeat([]impl.Base{baseAt(7)}, n)), impl.ErrMany)
		wantBaseCode(t, "more with faults", impl.MergeShards(slices.Repeat([]impl.Base{baseAt(-7)}, n)), impl.ErrMany)
		wantBaseCode(t, "more of other times", impl.MergeShards(append(slices.Repeat([]impl.Base{baseAt(7)}, n-1), baseAt(8))), impl.ErrMany)
	}
}

func TestP9MergeShardsOfOne(t *testing.T) {
	for _, b := range bases() {
		wantBase(t, baseName(b), impl.MergeShards([]impl.Base{b}), impl.BaseResult{Base: b})
		wantBase(t, baseName(b)+", beside an empty one", impl.MergeShards([]impl.Base{b, baseAt(b.Now)}), impl.BaseResult{Base: b})
		wantBase(t, baseName(b)+", behind empty ones", impl.MergeShards([]impl.Base{baseAt(b.Now), baseAt(b.Now), baseAt(b.Now), b}), impl.BaseResult{Base: b})
	}
}

func TestP9MergeShardsOfAnyParts(t *testing.T) {
	for seed := range chance(40) {
		c := seed
		b := baseAt(4000, manyEntries(4000, int(c.below(41)))...)
		list := slices.Repeat([]impl.Base{baseAt(4000)}, 1+int(c.below(4)))
		for _, e := range b.Entries {
			part := &list[c.below(int64(len(list)))]
			part.Entries = append(part.Entries, e)
		}
		wantBase(t, "parts of "+baseName(b), impl.MergeShards(list), impl.BaseResult{Base: b})
		slices.Reverse(list)
		wantBase(t, "parts of "+baseName(b)+", turned round", impl.MergeShards(list), impl.BaseResult{Base: b})
	}
}

func TestP9MergeShardsRisesByTypeThenIdThenAdv(t *testing.T) {
	a, b := entry(with(keyed(2, 9, 9), aged(5)), 1), entry(keyed(2, 9, 10), 2)
	c, d := entry(with(keyed(2, 10, 0), aged(3), sequenced(-9)), 3), entry(keyed(3, 0, 0), 4)
	first := entry(keyed(1, impl.MaxId, impl.MaxId), 0)
	wanted := impl.BaseResult{Base: baseAt(50, first, a, b, c, d)}
	wantBase(t, "by turns", impl.MergeShards([]impl.Base{baseAt(50, a, c), baseAt(50, b, d), baseAt(50, first)}), wanted)
	wantBase(t, "behind one another", impl.MergeShards([]impl.Base{baseAt(50, d), baseAt(50, c), baseAt(50, a, b), baseAt(50, first)}), wanted)
}

func TestP9MergeShardsOfAFault(t *testing.T) {
	young, old := entry(keyed(1, 2, 2), 3), entry(keyed(2, 4, 4), 5)
	sound := []impl.Base{baseAt(100, young), baseAt(100, old), baseAt(100)}
	faults := map[int64][]impl.Base{
		impl.ErrRange: {baseAt(-1), baseAt(impl.MaxTime + 1), baseAt(100, entry(keyed(3, 1, 1), 101)), baseAt(4000, entry(keyed(3, 1, 1), 0))},
		impl.ErrMany:  {baseAt(100, make([]impl.Entry, impl.MaxEntries+1)...), baseAt(100, entry(networkLsa(1, 1, 1), 0))},
		impl.ErrForm:  {baseAt(100, old, young), baseAt(100, young, young), baseAt(100, impl.Entry{})},
	}
	for code, list := range faults {
		for _, bad := range list {
			for at := range sound {
				wantBaseCode(t, "one with a fault", impl.MergeShards(slices.Insert(slices.Clone(sound), at, bad)), code)
			}
			wantBaseCode(t, "it alone", impl.MergeShards([]impl.Base{bad}), code)
			// Other times and twins stand ahead of the fault, and are asked behind it.
			wantBaseCode(t, "behind other times", impl.MergeShards([]impl.Base{baseAt(1), baseAt(2), bad}), code)
			wantBaseCode(t, "behind twins", impl.MergeShards([]impl.Base{sound[0], sound[0], bad}), code)
			for other, more := range faults {
				wantBaseCode(t, "two with faults", impl.MergeShards([]impl.Base{sound[0], bad, more[0]}), code)
				wantBaseCode(t, "two with faults", impl.MergeShards([]impl.Base{more[0], bad}), other)
			}
		}
	}
}

func TestP9MergeShardsOfOtherTimes(t *testing.T) {
	for _, now := range []int64{0, 99, 101, impl.MaxTime} {
		for at := range 4 {
			list := slices.Repeat([]impl.Base{baseAt(100)}, 4)
			list[at] = baseAt(now)
			wantBaseCode(t, "another time at "+strconv.Itoa(at), impl.MergeShards(list), impl.ErrState)
			list[(at+1)%4].Entries = manyEntries(100, 40)
			list[(at+2)%4].Entries = []impl.Entry{entry(keyed(3, 999, 999), 7)}
			wantBaseCode(t, "ahead of too many", impl.MergeShards(list), impl.ErrState)
		}
	}
}

func TestP9MergeShardsOfTwins(t *testing.T) {
	twin := entry(with(keyed(2, 5, 6), aged(17), sequenced(-3)), 8)
	for i := range 4 {
		for j := range i {
			list := slices.Repeat([]impl.Base{baseAt(100)}, 4)
			list[i].Entries, list[j].Entries = []impl.Entry{entry(keyed(1, 1, 1), 5), twin}, []impl.Entry{entry(keyed(2, 5, 6), 9), entry(keyed(3, 1, 1), 5)}
			wantBaseCode(t, "twins", impl.MergeShards(list), impl.ErrState)
			other := slices.Clone(list)
			other[j].Entries = []impl.Entry{entry(keyed(2, 5, 7), 9), entry(keyed(3, 1, 1), 5)}
			if got := impl.MergeShards(other); got.Code != impl.OK {
				t.Errorf("Keys that differ: code %d", got.Code)
			}
		}
	}
	full := baseAt(100, manyEntries(100, impl.MaxEntries)...)
	wantBaseCode(t, "twins ahead of too many", impl.MergeShards([]impl.Base{full, full}), impl.ErrState)
	wantBaseCode(t, "one twin ahead of too many", impl.MergeShards([]impl.Base{full, baseAt(100), baseAt(100, full.Entries[17])}), impl.ErrState)
}

func TestP9MergeShardsUpToMaxEntries(t *testing.T) {
	full := manyEntries(100, impl.MaxEntries)
	more := entry(keyed(3, impl.MaxId, 1), 100)
	for _, at := range []int{0, 1, 20, 39, 40} {
		list := []impl.Base{baseAt(100, full[at:]...), baseAt(100, full[:at]...)}
		wantBase(t, "as many as there may be", impl.MergeShards(list), impl.BaseResult{Base: baseAt(100, full...)})
		wantBaseCode(t, "one more", impl.MergeShards(append(list, baseAt(100, more))), impl.ErrFull)
	}
	var list []impl.Base
	for n := range int64(4) {
		var part []impl.Entry
		for id := range int64(impl.MaxEntries) {
			part = append(part, entry(keyed(3, id, n), 100))
		}
		list = append(list, baseAt(100, part...))
	}
	wantBaseCode(t, "all of them full", impl.MergeShards(list), impl.ErrFull)
}

func TestP9RunWorldOfNoEvent(t *testing.T) {
	for _, c := range configs() {
		want(t, "no event", impl.RunWorld(c, nil), impl.WorldResult{World: firstWorld(c)})
		want(t, "no event", impl.RunWorld(c, []impl.Event{}), impl.WorldResult{World: firstWorld(c)})
	}
}

func TestP9RunWorldUpToMaxEvents(t *testing.T) {
	for _, e := range []impl.Event{step(0, 1)[0], shut()[0], {}, call(0, snapOp())[0]} {
		list := slices.Repeat([]impl.Event{e}, impl.MaxEvents+1)
		c := config(2, 2, 3)
		got := world(t, c, list[:impl.MaxEvents])
		if len(got.Codes) != impl.MaxEvents {
			t.Errorf("%d events have %d codes", impl.MaxEvents, len(got.Codes))
		}
		wantWorldCode(t, "one more", impl.RunWorld(c, list), impl.ErrMany)
		wantWorldCode(t, "far more", impl.RunWorld(c, slices.Repeat(list, 500)), impl.ErrMany)
	}
}

// wantPhase asks all that the world tells of the only one who is at work.
func wantPhase(t *testing.T, what string, got impl.World, w impl.Worker, locks ...int64) {
	t.Helper()
	want(t, what, got.Workers[1], w)
	want(t, what+": the other one", got.Workers[0], impl.Worker{})
	wantLocks(t, what, got, locks...)
}

func TestP9AnInstallFromItsCallToItsEnd(t *testing.T) {
	c := config(2, 2, 3)
	l := of(c, 1, 4, aged(9), sequenced(5))
	o := installOp(l)
	events := tale(step(0, 1), whole(c, 1, o))
	at := func(n int) impl.World { return world(t, c, events[:n]) }
	wantPhase(t, "called", at(2), impl.Worker{Busy: true, Op: o, Called: 1}, -1, -1)
	wantPhase(t, "decoded", at(3), impl.Worker{Busy: true, Op: o, Called: 1, Phase: 1}, -1, -1)
	wantPhase(t, "locked", at(4), impl.Worker{Busy: true, Op: o, Called: 1, Phase: 2}, -1, 1)
	for n := range 5 {
		want(t, "not acted yet", at(n).Shards, []impl.Base{{}, {}})
		want(t, "not acted yet", at(n).Log, nil)
		want(t, "not acted yet", at(n).Queues, []impl.Queue{queue(3)})
	}
	answer := impl.Answer{Changed: true}
	wantPhase(t, "acted", at(5), impl.Worker{Busy: true, Op: o, Called: 1, Phase: 3, Answer: answer}, -1, 1)
	log := []impl.LogEntry{{Worker: 1, Called: 1, At: 4, Op: o, Answer: answer}}
	told := []impl.Queue{queue(3, impl.Item{Key: l.Key, Rev: 1})}
	want(t, "acted", at(5), impl.World{
		Shards: []impl.Base{{}, baseAt(0, entry(l, 0))}, Locks: []int64{-1, 1}, Rev: 1, Queues: told, Workers: at(5).Workers,
		Log: log, Codes: []int64{impl.ErrState, 0, 0, 0, 0},
	})
	want(t, "ended", at(6), impl.World{
		Shards: []impl.Base{{}, baseAt(0, entry(l, 0))}, Locks: []int64{-1, -1}, Rev: 1, Queues: told, Workers: make([]impl.Worker, 2),
		Log: log, Done: []impl.Finished{{Worker: 1, Called: 1, At: 5, Answer: answer}}, Codes: []int64{impl.ErrState, 0, 0, 0, 0, 0},
	})
}

func TestP9AnInstallOfBytesThatCannotBeRead(t *testing.T) {
	c := config(2, 2, 3)
	sound := installOp(keyed(3, 4, 5)).Data
	other := slices.Clone(sound)
	other[4]++
	summary := slices.Clone(sound)
	summary[24] = 1
	lists := map[int64][][]byte{
		impl.ErrMany: {nil, {}, {1}, make([]byte, 19)}, impl.ErrForm: {make([]byte, 20), append(slices.Clone(sound), 0), make([]byte, impl.MaxBytes)},
		impl.ErrSum: {other}, impl.ErrText: {resealed(summary), turned(sound, 3, 0), turned(sound, 3, 4)},
	}
	for code, list := range lists {
		for _, data := range list {
			o := impl.Op{Kind: impl.OpInstall, Data: data}
			wanted := firstWorld(c)
			wanted.Workers[1] = impl.Worker{Busy: true, Op: o, Called: 1}
			wanted.Codes = []int64{impl.ErrState, impl.OK}
			want(t, "called", world(t, c, tale(step(0, 1), call(1, o))), wanted)
			wanted.Workers[1] = impl.Worker{}
			wanted.Codes = []int64{impl.ErrState, impl.OK, impl.OK}
			wanted.Done = []impl.Finished{{Worker: 1, Called: 1, At: 2, Answer: impl.Answer{Code: code}}}
			want(t, "ended", world(t, c, tale(step(0, 1), call(1, o), step(1, 1))), wanted)
			wantCodes(t, "it has ended", c, tale(call(1, o), step(1, 2)), impl.OK, impl.ErrState)
		}
	}
}

func TestP9ALookupFromItsCallToItsEnd(t *testing.T) {
	c := config(3, 2, 3)
	l := of(c, 2, 4, aged(9), sequenced(5))
	before := wholes(c, 0, installOp(l), tickOp(30))
	for _, k := range []impl.Key{l.Key, of(c, 2, 5).Key, key(1, 1, 1)} {
		o, answer, shard := lookupOp(k), impl.Answer{Code: impl.ErrNone}, plainShard(c, k)
		if k == l.Key {
			answer = impl.Answer{Lsa: with(l, aged(39))}
		}
		events := tale(before, whole(c, 1, o))
		n := len(before)
		at := func(n int) impl.World { return world(t, c, events[:n]) }
		locks := []int64{-1, -1, -1}
		locks[shard] = 1
		wantPhase(t, "called", at(n+1), impl.Worker{Busy: true, Op: o, Called: int64(n)}, -1, -1, -1)
		wantPhase(t, "begun", at(n+2), impl.Worker{Busy: true, Op: o, Called: int64(n), Phase: 1}, -1, -1, -1)
		wantPhase(t, "locked", at(n+3), impl.Worker{Busy: true, Op: o, Called: int64(n), Phase: 2}, locks...)
		wantPhase(t, "acted", at(n+4), impl.Worker{Busy: true, Op: o, Called: int64(n), Phase: 3, Answer: answer}, locks...)
		wantPhase(t, "ended", at(n+5), impl.Worker{}, -1, -1, -1)
		last := at(n + 5)
		want(t, "acted", last.Log[2:], []impl.LogEntry{{Worker: 1, Called: int64(n), At: int64(n + 3), Op: o, Answer: answer}})
		want(t, "ended", last.Done[2:], []impl.Finished{{Worker: 1, Called: int64(n), At: int64(n + 4), Answer: answer}})
		want(t, "the map as it was", last.Shards, at(n).Shards)
		want(t, "queues as they were", last.Queues, at(n).Queues)
		if last.Rev != 1 {
			t.Errorf("Rev is %d behind a lookup", last.Rev)
		}
	}
}

func TestP9ARemoveFromItsCallToItsEnd(t *testing.T) {
	c := config(3, 2, 3)
	l, other := of(c, 2, 4, sequenced(5)), of(c, 2, 5, aged(7))
	before := wholes(c, 0, installOp(l), tickOp(30), installOp(other))
	n := len(before)
	o := removeOp(l.Key)
	events := tale(before, whole(c, 1, o), whole(c, 1, o))
	at := func(n int) impl.World { return world(t, c, events[:n]) }
	answer := impl.Answer{Changed: true}
	wantPhase(t, "called", at(n+1), impl.Worker{Busy: true, Op: o, Called: int64(n)}, -1, -1, -1)
	wantPhase(t, "begun", at(n+2), impl.Worker{Busy: true, Op: o, Called: int64(n), Phase: 1}, -1, -1, -1)
	wantPhase(t, "locked", at(n+3), impl.Worker{Busy: true, Op: o, Called: int64(n), Phase: 2}, -1, -1, 1)
	want(t, "not acted yet", at(n+3).Shards, []impl.Base{baseAt(30), baseAt(30), baseAt(30, entry(l, 0), entry(other, 30))})
	wantPhase(t, "acted", at(n+4), impl.Worker{Busy: true, Op: o, Called: int64(n), Phase: 3, Answer: answer}, -1, -1, 1)
	want(t, "acted", at(n+4).Shards, []impl.Base{baseAt(30), baseAt(30), baseAt(30, entry(other, 30))})
	want(t, "acted", at(n+4).Queues, []impl.Queue{queue(3, impl.Item{Key: other.Key, Rev: 2}, impl.Item{Key: l.Key, Rev: 3})})
	wantPhase(t, "ended", at(n+5), impl.Worker{}, -1, -1, -1)
	last := at(n + 10)
	want(t, "there is none any more", last.Log[4].Answer, impl.Answer{Code: impl.ErrNone})
	want(t, "there is none any more", last.Done[4], impl.Finished{Worker: 1, Called: int64(n + 5), At: int64(n + 9), Answer: impl.Answer{Code: impl.ErrNone}})
	want(t, "the map as it was", last.Shards, at(n+5).Shards)
	want(t, "queues as they were", last.Queues, at(n+5).Queues)
	if last.Rev != 3 {
		t.Errorf("Rev is %d, want 3", last.Rev)
	}
}

func TestP9ATickFromItsCallToItsEnd(t *testing.T) {
	for shards := int64(1); shards <= impl.MaxShards; shards++ {
		c := config(shards, 2, 3)
		l := of(c, shards-1, 4, aged(9))
		before := whole(c, 0, installOp(l))
		n := len(before)
		o := tickOp(40)
		events := tale(before, whole(c, 1, o))
		at := func(n int) impl.World { return world(t, c, events[:n]) }
		locks := slices.Repeat([]int64{impl.NoWorker}, int(shards))
		worker := impl.Worker{Busy: true, Op: o, Called: int64(n)}
		wantPhase(t, "called", at(n+1), worker, locks...)
		worker.Phase = 1
		for shard := range int(shards) {
			wantPhase(t, "some locks", at(n+2+shard), worker, locks...)
			locks[shard] = 1
		}
		n += 2 + int(shards)
		worker.Phase = 2
		wantPhase(t, "all locks", at(n), worker, locks...)
		want(t, "not acted yet", at(n).Shards[shards-1], baseAt(0, entry(l, 0)))
		worker.Phase = 3
		wantPhase(t, "acted", at(n+1), worker, locks...)
		for shard, b := range at(n + 1).Shards {
			wanted := baseAt(40)
			if shard == int(shards-1) {
				wanted.Entries = []impl.Entry{entry(l, 0)}
			}
			want(t, "all shards are of the time", b, wanted)
		}
		wantPhase(t, "ended", at(n+2), impl.Worker{}, slices.Repeat([]int64{impl.NoWorker}, int(shards))...)
		want(t, "ended", at(n + 2).Done[1], impl.Finished{Worker: 1, Called: 5, At: int64(n + 1)})
		want(t, "acted", at(n + 2).Log[1], impl.LogEntry{Worker: 1, Called: 5, At: int64(n), Op: o})
	}
}

func TestP9ASnapshotFromItsCallToItsEnd(t *testing.T) {
	c := config(3, 2, 3)
	a, b, d := of(c, 2, 4, aged(9)), of(c, 0, 5, sequenced(3)), of(c, 2, 6, aged(100))
	before := wholes(c, 0, installOp(a), installOp(b), tickOp(25), installOp(d))
	n := len(before)
	o := snapOp()
	events := tale(before, whole(c, 1, o))
	at := func(n int) impl.World { return world(t, c, events[:n]) }
	// The pages are as the shards are; in the answer each has its age now.
	pages := []impl.Base{baseAt(25, entry(b, 0)), baseAt(25), baseAt(25, entry(a, 0), entry(d, 25))}
	answer := impl.Answer{Base: baseAt(25, entry(with(a, aged(34)), 25), entry(with(b, aged(25)), 25), entry(d, 25))}
	worker := impl.Worker{Busy: true, Op: o, Called: int64(n)}
	wantPhase(t, "called", at(n+1), worker, -1, -1, -1)
	worker.Phase, worker.Answer = 1, answer
	wantPhase(t, "acted", at(n+2), worker, -1, -1, -1)
	want(t, "acted", at(n + 2).Log[4], impl.LogEntry{Worker: 1, Called: int64(n), At: int64(n + 1), Op: o, Answer: answer})
	worker.Pages = pages[:1]
	wantPhase(t, "one page", at(n+3), worker, -1, -1, -1)
	worker.Pages = pages[:2]
	wantPhase(t, "two pages", at(n+4), worker, -1, -1, -1)
	if len(at(n+4).Done) != 4 {
		t.Error("it has ended ahead of its last page")
	}
	wantPhase(t, "ended", at(n+5), impl.Worker{}, -1, -1, -1)
	last := at(n + 5)
	want(t, "ended", last.Done[4], impl.Finished{Worker: 1, Called: int64(n), At: int64(n + 4), Answer: answer})
	want(t, "one entry of the log", last.Log, at(n+2).Log)
	want(t, "the map as it was", last.Shards, pages)
	want(t, "queues as they were", last.Queues, at(n).Queues)
	wantCodes(t, "it has ended", c, tale(events, step(1, 1)), impl.OK, impl.ErrState)
	one := config(1, 1)
	want(t, "of one shard", world(t, one, whole(one, 0, o)).Done, []impl.Finished{{At: 2}})
}

func TestP9APopFromItsCallToItsEnd(t *testing.T) {
	c := config(2, 2, 1, 3)
	a, b := of(c, 0, 4), of(c, 1, 5)
	before := wholes(c, 0, installOp(a), installOp(b))
	n := int64(len(before))
	full := queue(3, impl.Item{Key: a.Key, Rev: 1}, impl.Item{Key: b.Key, Rev: 2})
	marked := marking(queue(1, impl.Item{Key: b.Key, Rev: 2}))
	want(t, "ahead of it", world(t, c, before).Queues, []impl.Queue{marked, full})
	called := world(t, c, tale(before, call(1, popOp(0))))
	wantPhase(t, "called", called, impl.Worker{Busy: true, Op: popOp(0), Called: n}, -1, -1)
	want(t, "called", called.Queues, []impl.Queue{marked, full})
	type popped struct {
		queue  int64
		answer impl.Answer
		left   []impl.Queue
	}
	first, second := []impl.Item{full.Items[0]}, []impl.Item{full.Items[1]}
	turns := []popped{
		{0, impl.Answer{Mark: true}, []impl.Queue{queue(1, second...), full}},
		{1, impl.Answer{Items: first}, []impl.Queue{queue(1, second...), queue(3, second...)}},
		{0, impl.Answer{Items: second}, []impl.Queue{queue(1), queue(3, second...)}},
		{0, impl.Answer{Code: impl.ErrNone}, []impl.Queue{queue(1), queue(3, second...)}},
		{1, impl.Answer{Items: second}, []impl.Queue{queue(1), queue(3)}},
		{1, impl.Answer{Code: impl.ErrNone}, []impl.Queue{queue(1), queue(3)}},
	}
	events := before
	for i, turn := range turns {
		events = tale(events, whole(c, 1, popOp(turn.queue)))
		got, at := world(t, c, events), n+2*int64(i)
		wantPhase(t, "ended", got, impl.Worker{}, -1, -1)
		want(t, "queues", got.Queues, turn.left)
		want(t, "acted", got.Log[2+i:], []impl.LogEntry{{Worker: 1, Called: at, At: at + 1, Op: popOp(turn.queue), Answer: turn.answer}})
		want(t, "ended", got.Done[2+i:], []impl.Finished{{Worker: 1, Called: at, At: at + 1, Answer: turn.answer}})
		if got.Rev != 2 {
			t.Errorf("Rev is %d behind a pop", got.Rev)
		}
	}
}

func TestP9InstallsThatTurnNothing(t *testing.T) {
	c := config(2, 1, 2)
	l := of(c, 1, 4, sequenced(5))
	before := whole(c, 0, installOp(l))
	first := world(t, c, before)
	none := map[string]impl.Lsa{
		"an older one": with(l, sequenced(4)), "the same one": l, "an older one that is taken back": with(l, sequenced(4), aged(impl.MaxAge)),
	}
	for name, other := range none {
		got := world(t, c, tale(before, whole(c, 0, installOp(other))))
		want(t, name, got.Log[1].Answer, impl.Answer{Code: impl.ErrOld})
		want(t, name, got.Done[1].Answer, impl.Answer{Code: impl.ErrOld})
		want(t, name, got.Shards, first.Shards)
		want(t, name, got.Queues, first.Queues)
		if got.Rev != 1 {
			t.Errorf("%s: Rev is %d", name, got.Rev)
		}
	}
	absent := world(t, c, tale(before, whole(c, 0, installOp(of(c, 0, 9, aged(impl.MaxAge))))))
	want(t, "one that is taken back, and is not there", absent.Log[1].Answer, impl.Answer{})
	want(t, "one that is taken back, and is not there", absent.Shards, first.Shards)
	want(t, "one that is taken back, and is not there", absent.Queues, first.Queues)
	back := world(t, c, tale(before, whole(c, 0, installOp(with(l, aged(impl.MaxAge))))))
	want(t, "one that is taken back", back.Log[1].Answer, impl.Answer{Changed: true})
	want(t, "one that is taken back", back.Shards, make([]impl.Base, 2))
	want(t, "one that is taken back", back.Queues, []impl.Queue{queue(2, impl.Item{Key: l.Key, Rev: 2})})
}

func TestP9AnInstallComesToAMapOfAnotherTime(t *testing.T) {
	c := config(3, 1)
	old, l := of(c, 0, 4, sequenced(-5), aged(3)), of(c, 0, 4, sequenced(6), aged(2))
	events := wholes(c, 0, installOp(old), installOp(of(c, 1, 8)), tickOp(70), installOp(l))
	got := world(t, c, events)
	want(t, "put there now", got.Shards, []impl.Base{baseAt(70, entry(l, 70)), baseAt(70, entry(of(c, 1, 8), 0)), baseAt(70)})
}

func TestP9CodesOfEvents(t *testing.T) {
	c := config(2, 2, 3)
	busy := call(0, snapOp())
	wantCodes(t, "no such worker", c, tale(step(2, 1), step(3, 1), call(2, snapOp()), call(3, tickOp(5))), impl.ErrNone, impl.ErrNone, impl.ErrNone, impl.ErrNone)
	wantCodes(t, "no worker of any world", c, tale(step(4, 1), step(-1, 1), call(4, snapOp())), impl.ErrRange, impl.ErrRange, impl.ErrRange)
	wantCodes(t, "no such queue", c, tale(call(0, popOp(1)), call(0, popOp(0))), impl.ErrNone, impl.OK)
	wantCodes(t, "no queue at all", config(1, 1), tale(call(0, popOp(0)), call(0, popOp(1))), impl.ErrNone, impl.ErrNone)
	wantCodes(t, "both queues", config(1, 2, 1, 1), tale(call(0, popOp(0)), call(1, popOp(1))), impl.OK, impl.OK)
	wantCodes(t, "a worker that is busy", c, tale(busy, busy, call(0, tickOp(1)), call(1, tickOp(1))), impl.OK, impl.ErrState, impl.ErrState, impl.OK)
	wantCodes(t, "a step of one that is not", c, tale(step(0, 1), busy, step(1, 1), step(0, 1)), impl.ErrState, impl.OK, impl.ErrState, impl.OK)
	wantCodes(t, "a call when all is closed", c, tale(shut(), call(0, tickOp(1)), call(1, popOp(0)), step(0, 1)), impl.OK, impl.ErrClosed, impl.ErrClosed, impl.ErrState)
	wantCodes(t, "a second shut", c, tale(shut(), shut(), shut()), impl.OK, impl.OK, impl.OK)
	wantCodes(t, "a fault", c, tale([]impl.Event{{}, {Kind: 4}, {Kind: 3, Worker: 1}, {Kind: 2, Op: snapOp()}}, call(0, tickOp(0)), call(1, bytesOp(make([]byte, 401)...))),
		impl.ErrForm, impl.ErrForm, impl.ErrForm, impl.ErrForm, impl.ErrRange, impl.ErrMany)
}

func TestP9CodesOfEventsAreAskedInOrder(t *testing.T) {
	c := config(2, 2, 3)
	busy, closed := call(0, snapOp()), tale(call(0, snapOp()), shut())
	for name, before := range map[string][]impl.Event{"at first": nil, "busy": busy, "closed": shut(), "busy and closed": closed} {
		wantCodes(t, name+", a fault of the op", c, tale(before, call(0, tickOp(0))), impl.ErrRange)
		wantCodes(t, name+", a fault of the op ahead of no worker", c, tale(before, call(2, impl.Op{})), impl.ErrForm)
		wantCodes(t, name+", no such worker", c, tale(before, call(2, snapOp()), step(3, 1)), impl.ErrNone, impl.ErrNone)
		wantCodes(t, name+", no such queue", c, tale(before, call(0, popOp(1)), call(2, popOp(1))), impl.ErrNone, impl.ErrNone)
	}
	wantCodes(t, "closed ahead of busy", c, tale(closed, call(0, tickOp(1)), call(1, tickOp(1))), impl.ErrClosed, impl.ErrClosed)
}

func TestP9AnEventWithACodeTurnsNothing(t *testing.T) {
	for seed := range chance(30) {
		c := seed
		conf := anyConfig(&c)
		events := randomTale(&c, conf, int(c.below(100)), 60)
		before := world(t, conf, events)
		more := tale(step(3, 1), step(-1, 1), []impl.Event{{}, {Kind: 3, Worker: 1}, {Kind: 1}})
		for worker := range conf.Workers {
			more = append(more, tale(step(worker, 1), call(worker, randomOp(&c)), call(worker, popOp(1)), call(worker, impl.Op{Kind: 9}))...)
		}
		for _, e := range more {
			after := world(t, conf, append(slices.Clip(events), e))
			code := after.Codes[len(events)]
			if code == impl.OK {
				continue
			}
			wanted := before
			wanted.Codes = append(slices.Clone(before.Codes), code)
			want(t, "an event with a code", after, wanted)
		}
	}
}

func TestP9StepsBehindAShut(t *testing.T) {
	c := config(2, 3, 2)
	a, b := of(c, 0, 1), of(c, 1, 2)
	calls := tale(call(0, installOp(a)), step(0, 2), call(1, tickOp(5)), step(1, 1), call(2, popOp(0)))
	steps := tale(step(0, 2), step(2, 1), step(1, 5))
	open, closed := world(t, c, tale(calls, steps)), world(t, c, tale(calls, shut(), steps))
	if open.Closed || !closed.Closed {
		t.Error("it is closed by a shut alone")
	}
	want(t, "shards", closed.Shards, open.Shards)
	want(t, "all that were called have ended", closed.Workers, make([]impl.Worker, 3))
	if len(closed.Done) != 3 || len(closed.Log) != 3 || closed.Shards[0].Now != 5 {
		t.Errorf("got %v", closed)
	}
	for at, f := range closed.Done {
		want(t, "answers", f.Answer, open.Done[at].Answer)
	}
	last := world(t, c, tale(calls, shut(), steps, call(0, installOp(b)), step(0, 1)))
	want(t, "no more", last.Codes[len(closed.Codes):], []int64{impl.ErrClosed, impl.ErrState})
	want(t, "no more", last.Shards, closed.Shards)
}

func TestP9TwoThatWantTheSameLock(t *testing.T) {
	c := config(2, 2, 8)
	a, b := of(c, 1, 4), of(c, 1, 6)
	for _, second := range []impl.Op{installOp(b), installOp(a), lookupOp(a.Key), removeOp(a.Key), lookupOp(b.Key)} {
		events := tale(call(0, installOp(a)), call(1, second), step(0, 2), step(1, 2))
		got := world(t, c, events)
		wantPhases(t, "the second one waits", got, 2, 1)
		wantLocks(t, "the second one waits", got, -1, 0)
		want(t, "a step that waits turns nothing", world(t, c, tale(events, step(1, 3))).Workers, got.Workers)
		wantCodes(t, "a step that waits has no code", c, tale(events, step(1, 3)), 0, 0, 0)
		got = world(t, c, tale(events, step(0, 1), step(1, 1)))
		wantPhases(t, "it waits for one that has acted, too", got, 3, 1)
		wantLocks(t, "it waits for one that has acted, too", got, -1, 0)
		got = world(t, c, tale(events, step(0, 2)))
		wantLocks(t, "it is free", got, -1, -1)
		if got.Workers[1].Phase != 1 {
			t.Error("who waits is not picked by what is free")
		}
		got = world(t, c, tale(events, step(0, 2), step(1, 1)))
		wantLocks(t, "its turn", got, -1, 1)
		if got.Workers[1].Phase != 2 || got.Workers[0].Busy {
			t.Errorf("its turn: got %v", got.Workers)
		}
		got = world(t, c, tale(events, step(0, 2), step(1, 3)))
		wantLocks(t, "all are free", got, -1, -1)
		if len(got.Done) != 2 || len(got.Log) != 2 {
			t.Errorf("both have ended: got %v", got)
		}
	}
}

func TestP9WhoComesFirstHasTheLock(t *testing.T) {
	c := config(1, 3)
	l := keyed(3, 1, 1)
	events := tale(call(0, lookupOp(l.Key)), call(1, removeOp(l.Key)), call(2, installOp(l)), step(0, 1), step(1, 1), step(2, 2), step(1, 1), step(0, 1))
	wantLocks(t, "the one who was called last", world(t, c, events), 2)
	wantPhases(t, "the one who was called last", world(t, c, events), 1, 1, 2)
	got := world(t, c, tale(events, step(2, 2), step(0, 3), step(1, 3)))
	want(t, "in their turns", []impl.Answer{got.Log[0].Answer, got.Log[1].Answer, got.Log[2].Answer}, []impl.Answer{{Changed: true}, {Lsa: l}, {Changed: true}})
	got = world(t, c, tale(events, step(2, 2), step(1, 3), step(0, 3)))
	want(t, "in other turns", []impl.Answer{got.Log[0].Answer, got.Log[1].Answer, got.Log[2].Answer}, []impl.Answer{{Changed: true}, {Changed: true}, {Code: impl.ErrNone}})
	wantLocks(t, "the last one has to wait anew", world(t, c, tale(events, step(2, 2), step(0, 2), step(1, 3))), 0)
}

func TestP9TwoThatWantOtherLocks(t *testing.T) {
	c := config(2, 2, 8)
	a, b := of(c, 1, 4), of(c, 0, 6)
	events := tale(call(0, installOp(a)), call(1, installOp(b)), step(0, 2), step(1, 2))
	got := world(t, c, events)
	wantPhases(t, "both have theirs", got, 2, 2)
	wantLocks(t, "both have theirs", got, 1, 0)
	got = world(t, c, tale(events, step(1, 1), step(0, 1)))
	wantPhases(t, "both have acted", got, 3, 3)
	want(t, "both have acted", got.Shards, []impl.Base{baseAt(0, entry(b, 0)), baseAt(0, entry(a, 0))})
	want(t, "in the order in which they act", got.Queues, []impl.Queue{queue(8, impl.Item{Key: b.Key, Rev: 1}, impl.Item{Key: a.Key, Rev: 2})})
	wantLocks(t, "one is free", world(t, c, tale(events, step(1, 1), step(0, 2))), 1, -1)
	wantLocks(t, "the other one is free", world(t, c, tale(events, step(0, 1), step(1, 2))), -1, 0)
	last := world(t, c, tale(events, step(1, 1), step(0, 2), step(1, 1)))
	if last.Log[0].Worker != 1 || last.Log[1].Worker != 0 || last.Done[0].Worker != 0 || last.Done[1].Worker != 1 {
		t.Errorf("the log is in the order of acts, Done in that of ends: got %v, %v", last.Log, last.Done)
	}
}

func TestP9ATickWaitsForALockThatIsHeld(t *testing.T) {
	c := config(4, 4, 8)
	held, first, last := of(c, 2, 4), of(c, 0, 6), of(c, 3, 8)
	events := tale(call(0, installOp(held)), step(0, 2), call(1, tickOp(9)), step(1, 1))
	got := world(t, c, events)
	wantLocks(t, "none yet", got, -1, -1, 0, -1)
	events = tale(events, step(1, 1))
	wantLocks(t, "the first one", world(t, c, events), 1, -1, 0, -1)
	events = tale(events, step(1, 1))
	wantLocks(t, "the second one", world(t, c, events), 1, 1, 0, -1)
	events = tale(events, step(1, 3))
	got = world(t, c, events)
	wantLocks(t, "the third one is held, and the last one is not taken ahead of it", got, 1, 1, 0, -1)
	wantPhases(t, "it waits", got, 2, 1)
	wantCodes(t, "it waits without a code", c, events, 0, 0, 0)

	// Another one waits for the tick, one more passes it by where it does not hold the lock yet.
	events = tale(events, call(2, installOp(first)), step(2, 4), call(3, installOp(last)), step(3, 3))
	got = world(t, c, events)
	wantLocks(t, "one waits, one does not", got, 1, 1, 0, 3)
	wantPhases(t, "one waits, one does not", got, 2, 1, 1, 3)
	want(t, "one waits, one does not", got.Shards, []impl.Base{{}, {}, {}, baseAt(0, entry(last, 0))})

	events = tale(events, step(0, 2), step(1, 2))
	got = world(t, c, events)
	wantLocks(t, "now it waits for the other one", got, 1, 1, 1, 3)
	events = tale(events, step(3, 1), step(1, 1))
	got = world(t, c, events)
	wantLocks(t, "it has all", got, 1, 1, 1, 1)
	if got.Workers[1].Phase != 2 || got.Workers[2].Phase != 1 || got.Shards[0].Now != 0 {
		t.Errorf("it has all: got %v", got)
	}
	events = tale(events, step(1, 1), step(2, 1))
	got = world(t, c, events)
	wantLocks(t, "it has acted", got, 1, 1, 1, 1)
	want(t, "it has acted", got.Shards, []impl.Base{baseAt(9), baseAt(9), baseAt(9, entry(held, 0)), baseAt(9, entry(last, 0))})
	events = tale(events, step(1, 1))
	wantLocks(t, "all are free", world(t, c, events), -1, -1, -1, -1)
	got = world(t, c, tale(events, step(2, 2)))
	wantLocks(t, "who waited has it", got, 2, -1, -1, -1)
	want(t, "who waited comes to the new time", got.Shards[0], baseAt(9, entry(first, 9)))
}

func TestP9TwoTicks(t *testing.T) {
	c := config(3, 2)
	events := tale(call(0, tickOp(5)), call(1, tickOp(7)), step(0, 2), step(1, 3), step(0, 1), step(1, 2), step(0, 1))
	got := world(t, c, events)
	wantPhases(t, "the second one waits", got, 2, 1)
	wantLocks(t, "the second one waits", got, 0, 0, 0)
	got = world(t, c, tale(events, step(0, 2), step(1, 1)))
	wantLocks(t, "its turn", got, 1, -1, -1)
	got = world(t, c, tale(events, step(0, 2), step(1, 5)))
	want(t, "one behind the other", got.Shards, []impl.Base{baseAt(12), baseAt(12), baseAt(12)})
	want(t, "both have ended", got.Workers, make([]impl.Worker, 2))
}

func TestP9ASnapshotOfShardsThatTurn(t *testing.T) {
	c := config(3, 3, 8)
	a, b, d := of(c, 0, 4, aged(3)), of(c, 1, 5, aged(2)), of(c, 2, 6)
	newer, more := with(b, sequenced(7)), of(c, 1, 9)
	before := wholes(c, 0, installOp(a), installOp(b), installOp(d), tickOp(50))
	pages := world(t, c, before).Shards
	answer := impl.Answer{Base: plainAges(impl.MergeShards(pages).Base).Base}
	turns := map[string][]impl.Op{
		"removes": {removeOp(a.Key), removeOp(b.Key), removeOp(d.Key)}, "a newer one and one more": {installOp(newer), installOp(more)},
		"a tick": {tickOp(1000)}, "ticks by which all are gone": {tickOp(1000), tickOp(1000), tickOp(1000), tickOp(1000)}, "all of it": {removeOp(b.Key), tickOp(9), installOp(newer)},
	}
	for name, turn := range turns {
		// It turns behind the act, behind the first page, and behind the second one.
		for taken := 1; taken <= 3; taken++ {
			events := tale(before, call(1, snapOp()), step(1, taken), wholes(c, 2, turn...))
			got := world(t, c, events)
			wantPhases(t, name, impl.World{Workers: got.Workers[1:2]}, 1)
			want(t, name+": its pages", got.Workers[1].Pages, pages[:taken-1])
			if alike(got.Shards, pages) {
				t.Errorf("%s: nothing has turned", name)
			}
			for next := taken; next < 3; next++ {
				events = tale(events, step(1, 1))
				want(t, name+": pages that it takes then", world(t, c, events).Workers[1].Pages, pages[:next])
			}
			last := world(t, c, tale(events, step(1, 1)))
			want(t, name+": its answer", last.Done[len(last.Done)-1].Answer, answer)
			want(t, name+": its answer in the log", last.Log[4].Answer, answer)
			want(t, name+": it has ended", last.Workers[1], impl.Worker{})
			want(t, name+": what has turned stays so", last.Shards, got.Shards)
		}
	}
}

func TestP9ASnapshotBesideATick(t *testing.T) {
	c := config(2, 2)
	a, b := of(c, 0, 4, aged(3590)), of(c, 1, 5, aged(100))
	before := wholes(c, 0, installOp(a), installOp(b))
	tick := tale(call(0, tickOp(20)), step(0, 5))
	aheadOf := impl.Answer{Base: baseAt(0, entry(a, 0), entry(b, 0))}
	behind := impl.Answer{Base: baseAt(20, entry(with(b, aged(120)), 20))}
	for at := 1; at <= len(tick); at++ {
		for page := range 3 {
			// The snapshot acts behind so many events of the tick, and takes so many pages ahead of the rest of it.
			events := tale(before, call(1, snapOp()), tick[:at], step(1, 1+page), tick[at:], step(1, 2-page))
			got := world(t, c, events)
			wanted := aheadOf
			if at > 4 {
				wanted = behind
			}
			for _, f := range got.Done {
				if f.Worker == 1 {
					want(t, "behind "+strconv.Itoa(at)+" events, "+strconv.Itoa(page)+" pages", f.Answer, wanted)
				}
			}
			if len(got.Done) != 4 || got.Shards[0].Now != 20 || got.Shards[1].Now != 20 {
				t.Errorf("a snapshot waits for none, and none for it: got %v", got)
			}
		}
	}
	held := world(t, c, tale(before, call(0, tickOp(20)), step(0, 3), whole(c, 1, snapOp())))
	want(t, "while all locks are held", held.Done[2].Answer, aheadOf)
}

func TestP9TwoSnapshotsOfTheirOwnTimes(t *testing.T) {
	c := config(2, 3)
	a, b := of(c, 0, 4), of(c, 0, 5)
	events := tale(whole(c, 2, installOp(a)), call(0, snapOp()), step(0, 1), whole(c, 2, installOp(b)), call(1, snapOp()), step(1, 1), whole(c, 2, removeOp(a.Key)), step(1, 2), step(0, 2))
	got := world(t, c, events)
	want(t, "the later one", got.Done[3].Answer.Base, baseAt(0, entry(a, 0), entry(b, 0)))
	want(t, "the one ahead", got.Done[4].Answer.Base, baseAt(0, entry(a, 0)))
}

func TestP9QueuesAreToldEachChange(t *testing.T) {
	c := config(3, 1, 8, 2)
	a, b := of(c, 2, 4), of(c, 0, 5)
	item := func(l impl.Lsa, rev int64) impl.Item { return impl.Item{Key: l.Key, Rev: rev} }
	ops := []impl.Op{installOp(a), installOp(b), installOp(with(a, sequenced(3))), lookupOp(a.Key), installOp(a), tickOp(10), removeOp(b.Key), snapOp(), installOp(with(a, sequenced(4), aged(impl.MaxAge)))}
	wanted := [][]impl.Item{
		{item(a, 1)}, {item(a, 1), item(b, 2)}, {item(b, 2), item(a, 3)}, {item(b, 2), item(a, 3)}, {item(b, 2), item(a, 3)}, {item(b, 2), item(a, 3)},
		{item(a, 3), item(b, 4)}, {item(a, 3), item(b, 4)}, {item(b, 4), item(a, 5)},
	}
	for n := range ops {
		got := world(t, c, wholes(c, 0, ops[:n+1]...))
		want(t, "behind op "+strconv.Itoa(n), got.Queues, []impl.Queue{queue(8, wanted[n]...), queue(2, wanted[n]...)})
		if last := wanted[n][len(wanted[n])-1]; got.Rev != last.Rev {
			t.Errorf("behind op %d: Rev is %d, want %d", n, got.Rev, last.Rev)
		}
	}
	none := config(3, 1)
	if got := world(t, none, wholes(none, 0, ops...)); got.Rev != 5 || len(got.Queues) != 0 {
		t.Errorf("without queues: Rev is %d, want 5", got.Rev)
	}
}

func TestP9QueuesAreToldAllThatIsGoneByOneTick(t *testing.T) {
	// The Keys rise in another order than their shards.
	c := config(2, 1, 8, 1)
	first, second, third := with(summaryLsa(0, 0, 1, 1), aged(3000)), with(summaryLsa(0, 1, 1, 1), aged(3599)), with(summaryLsa(0, 2, 1, 1), aged(2600))
	if plainShard(c, first.Key) != 1 || plainShard(c, second.Key) != 0 || plainShard(c, third.Key) != 1 {
		t.Fatal("they are in other shards")
	}
	stays := with(summaryLsa(0, 3, 1, 1), aged(2599))
	before := wholes(c, 0, installOp(third), installOp(stays), installOp(second), installOp(first))
	got := world(t, c, tale(before, whole(c, 0, tickOp(1000))))
	items := []impl.Item{{Key: stays.Key, Rev: 2}, {Key: first.Key, Rev: 5}, {Key: second.Key, Rev: 6}, {Key: third.Key, Rev: 7}}
	want(t, "in order", got.Queues, []impl.Queue{queue(8, items...), marking(queue(1, items[3]))})
	want(t, "its answer", got.Log[4].Answer, impl.Answer{Changed: true})
	want(t, "one stays", got.Shards, []impl.Base{baseAt(1000, entry(stays, 0)), baseAt(1000)})
	if got.Rev != 7 {
		t.Errorf("Rev is %d, want 7", got.Rev)
	}
	got = world(t, c, tale(before[10:], whole(c, 0, tickOp(1000))))
	want(t, "two Keys", got.Queues[0], queue(8, impl.Item{Key: first.Key, Rev: 3}, impl.Item{Key: second.Key, Rev: 4}))
}

func TestP9AFullQueueIsMarked(t *testing.T) {
	for size := int64(1); size <= impl.MaxCap; size++ {
		c := config(4, 1, impl.MaxCap, size)
		var events []impl.Event
		var items []impl.Item
		for n := range size + 1 {
			l := of(c, n%4, n)
			events = append(events, whole(c, 0, installOp(l))...)
			items = append(items, impl.Item{Key: l.Key, Rev: n + 1})
		}
		got := world(t, c, events[:5*size])
		want(t, "full", got.Queues[1], queue(size, items[:size]...))
		got = world(t, c, events)
		want(t, "one more", got.Queues[1], marking(queue(size, items[size])))
		if size < impl.MaxCap {
			want(t, "the other one has room", got.Queues[0], queue(impl.MaxCap, items...))
		}
		// Of a Key that is there no room is wanted.
		l := of(c, (size-1)%4, size-1, sequenced(3))
		got = world(t, c, tale(events[:5*size], whole(c, 0, installOp(l))))
		want(t, "the same Key", got.Queues[1], queue(size, append(items[:size-1:size-1], impl.Item{Key: l.Key, Rev: size + 1})...))
	}
}

func TestP9WorldsOfAsManyEntriesAsCanBe(t *testing.T) {
	c := config(4, 4, 8)
	var events []impl.Event
	for n := range int64(impl.MaxEntries - 4) {
		events = append(events, whole(c, n%4, installOp(of(c, n%4, n)))...)
	}
	for n := range int64(4) {
		events = append(events, tale(call(n, installOp(of(c, n, 90+n))), step(n, 3))...)
	}
	got := world(t, c, events)
	want(t, "forty entries", got, plainWorld(c, events))
	if merged := impl.MergeShards(got.Shards); merged.Code != impl.OK || len(merged.Base.Entries) != impl.MaxEntries {
		t.Errorf("code %d, %d entries", merged.Code, len(merged.Base.Entries))
	}
}

func TestP9AnyTurnsAreThoseOfOneMap(t *testing.T) {
	for seed := range chance(400) {
		c := seed
		conf := anyConfig(&c)
		events := randomTale(&c, conf, int(c.below(impl.MaxEvents+1)), 150)
		want(t, "any turns", world(t, conf, events), plainWorld(conf, events))
	}
}

// wantSound asks what is so of each world.
func wantSound(t *testing.T, c impl.Config, w impl.World) {
	t.Helper()
	if merged := impl.MergeShards(w.Shards); merged.Code != impl.OK || len(w.Shards) != int(c.Shards) {
		t.Errorf("the shards are no map: code %d", merged.Code)
	}
	for shard, b := range w.Shards {
		for _, e := range b.Entries {
			if of := impl.ShardOf(c, e.Lsa.Key); of.Code != impl.OK || of.Value != int64(shard) {
				t.Errorf("%v is in the shard %d, and not in its own", e.Lsa.Key, shard)
			}
		}
	}
	held := map[int64]int64{}
	for _, holder := range w.Locks {
		if holder == impl.NoWorker {
			continue
		}
		held[holder]++
		if holder < 0 || holder >= c.Workers || !w.Workers[holder].Busy {
			t.Errorf("%d holds a lock, and is not busy", holder)
		}
	}
	for n, worker := range w.Workers {
		if !worker.Busy && !alike(worker, impl.Worker{}) {
			t.Errorf("worker %d is not busy, and not zero: %v", n, worker)
		}
		low, high := int64(0), int64(0)
		switch {
		case worker.Op.Kind == impl.OpSnap || worker.Op.Kind == impl.OpPop:
		case worker.Phase > 1 && worker.Op.Kind == impl.OpTick:
			low, high = c.Shards, c.Shards
		case worker.Phase > 1:
			low, high = 1, 1
		case worker.Phase == 1 && worker.Op.Kind == impl.OpTick:
			high = c.Shards - 1
		}
		if got := held[int64(n)]; got < low || got > high {
			t.Errorf("worker %d in phase %d of %s holds %d locks", n, worker.Phase, opName(worker.Op), got)
		}
	}
	for _, q := range w.Queues {
		if code := impl.QueueFault(q); code != impl.OK {
			t.Errorf("a queue has the fault %d", code)
		}
	}
}

func TestP9WorldsAreSoundBehindEachEvent(t *testing.T) {
	for seed := range chance(24) {
		c := seed + 1000
		conf := anyConfig(&c)
		events := randomTale(&c, conf, 120, 150)
		for n := range events {
			w := world(t, conf, events[:n])
			wantSound(t, conf, w)
			want(t, "behind "+strconv.Itoa(n)+" events", w, plainWorld(conf, events[:n]))
		}
	}
}

func TestP9WhatWasDoneDoesNotHangOnWhatComesLater(t *testing.T) {
	for seed := range chance(60) {
		c := seed + 2000
		conf := anyConfig(&c)
		first := randomTale(&c, conf, int(c.below(100)), 150)
		before := world(t, conf, first)
		for range 4 {
			after := world(t, conf, tale(first, randomTale(&c, conf, 100, 50)))
			n, m, k := len(before.Log), len(before.Done), len(before.Codes)
			want(t, "the log", after.Log[:n], before.Log)
			want(t, "what has ended", after.Done[:m], before.Done)
			want(t, "the codes", after.Codes[:k], before.Codes)
			if after.Rev < before.Rev || before.Closed && !after.Closed || after.Shards[0].Now < before.Shards[0].Now {
				t.Errorf("something goes back: from %v to %v", before, after)
			}
			for at, e := range after.Log[n:] {
				if e.At < int64(k) {
					t.Errorf("entry %d of the log comes later, and is of event %d", n+at, e.At)
				}
			}
			want(t, "once more", world(t, conf, first), before)
		}
	}
}

func TestP9TheLogIsInOrderAndEachEndHasItsCall(t *testing.T) {
	for seed := range chance(60) {
		c := seed + 3000
		conf := anyConfig(&c)
		events := randomTale(&c, conf, impl.MaxEvents, 150)
		w := world(t, conf, events)
		for at, e := range w.Log {
			if at > 0 && w.Log[at-1].At >= e.At || e.Called >= e.At || events[e.Called].Kind != impl.EvCall || events[e.Called].Worker != e.Worker || events[e.At].Kind != impl.EvStep || events[e.At].Worker != e.Worker {
				t.Errorf("entry %d of the log is of the events %d and %d", at, e.Called, e.At)
			}
			want(t, "its op", e.Op, events[e.Called].Op)
		}
		for at, f := range w.Done {
			if at > 0 && w.Done[at-1].At >= f.At || f.Called >= f.At || w.Codes[f.Called] != impl.OK || events[f.At].Worker != f.Worker {
				t.Errorf("end %d is of the events %d and %d", at, f.Called, f.At)
			}
		}
	}
}

// variant is a value that differs from another one in one thing alone.
type variant struct {
	name  string
	value reflect.Value
}

// variantsOf are of v: each number one more, each bool turned, each list shorter, longer, in another order.
func variantsOf(name string, v reflect.Value) []variant {
	var list []variant
	changed := func(part string, set func(x reflect.Value)) {
		x := reflect.New(v.Type()).Elem()
		x.Set(copied(v, 0))
		set(x)
		list = append(list, variant{name + part, x})
	}
	switch v.Kind() {
	case reflect.Int64:
		changed(" one more", func(x reflect.Value) { x.SetInt(v.Int() + 1) })
		changed(" turned round", func(x reflect.Value) { x.SetInt(-v.Int() - 1) })
	case reflect.Uint8:
		changed(" one more", func(x reflect.Value) { x.SetUint((v.Uint() + 1) % 256) })
	case reflect.Bool:
		changed(" turned", func(x reflect.Value) { x.SetBool(!v.Bool()) })
	case reflect.Struct:
		for i := range v.NumField() {
			for _, other := range variantsOf(name+"."+v.Type().Field(i).Name, v.Field(i)) {
				changed("", func(x reflect.Value) { x.Field(i).Set(other.value) })
				list[len(list)-1].name = other.name
			}
		}
	case reflect.Slice:
		for i := range v.Len() {
			for _, other := range variantsOf(name+"["+strconv.Itoa(i)+"]", v.Index(i)) {
				changed("", func(x reflect.Value) { x.Index(i).Set(other.value) })
				list[len(list)-1].name = other.name
			}
			changed(" without "+strconv.Itoa(i), func(x reflect.Value) {
				x.Set(reflect.AppendSlice(x.Slice(0, i), v.Slice(i+1, v.Len())))
			})
		}
		changed(" with nothing behind it", func(x reflect.Value) { x.Set(reflect.Append(x, reflect.Zero(v.Type().Elem()))) })
		if v.Len() > 1 {
			changed(" in another order", func(x reflect.Value) { reflect.Swapper(x.Interface())(0, v.Len()-1) })
			changed(" of nothing", func(x reflect.Value) { x.SetZero() })
		}
	}
	return list
}

// filledUp has another number everywhere, lists of two, and all bools as told.
func filledUp(typ reflect.Type, next *int64, told bool) reflect.Value {
	x := reflect.New(typ).Elem()
	switch typ.Kind() {
	case reflect.Int64:
		*next++
		x.SetInt(*next)
	case reflect.Uint8:
		*next++
		x.SetUint(uint64(*next % 256))
	case reflect.Bool:
		x.SetBool(told)
	case reflect.Struct:
		for i := range typ.NumField() {
			x.Field(i).Set(filledUp(typ.Field(i).Type, next, told))
		}
	case reflect.Slice:
		for range 2 {
			x.Set(reflect.Append(x, filledUp(typ.Elem(), next, told)))
		}
	}
	return x
}

func full[T any](told bool) T {
	next := int64(0)
	return filledUp(reflect.TypeFor[T](), &next, told).Interface().(T)
}

// copied is v with lists of its own, and room for so many behind the end of each, in which something stands.
func copied(v reflect.Value, room int) reflect.Value {
	switch v.Kind() {
	case reflect.Struct:
		x := reflect.New(v.Type()).Elem()
		for i := range v.NumField() {
			x.Field(i).Set(copied(v.Field(i), room))
		}
		return x
	case reflect.Slice:
		n := v.Len()
		x := reflect.MakeSlice(v.Type(), n+room, n+room)
		for i := range n {
			x.Index(i).Set(copied(v.Index(i), room))
		}
		next := int64(-90)
		for i := range room {
			x.Index(n + i).Set(filledUp(v.Type().Elem(), &next, true))
		}
		return x.Slice(0, n)
	}
	return v
}

func roomyCopy[T any](x T) T {
	return copied(reflect.ValueOf(&x).Elem(), 2).Interface().(T)
}

// stretched is v with each list up to the end of what there is room for.
func stretched(v reflect.Value) reflect.Value {
	switch v.Kind() {
	case reflect.Struct:
		x := reflect.New(v.Type()).Elem()
		for i := range v.NumField() {
			x.Field(i).Set(stretched(v.Field(i)))
		}
		return x
	case reflect.Slice:
		x := reflect.MakeSlice(v.Type(), v.Cap(), v.Cap())
		for i := range v.Cap() {
			x.Index(i).Set(stretched(v.Slice(0, v.Cap()).Index(i)))
		}
		return x
	}
	return v
}

func wholeCopy[T any](x T) T {
	return stretched(reflect.ValueOf(&x).Elem()).Interface().(T)
}

// place is where a list stands in memory.
type place struct {
	name     string
	from, to uintptr
}

func placesOf(name string, v reflect.Value) []place {
	var list []place
	switch v.Kind() {
	case reflect.Struct:
		for i := range v.NumField() {
			list = append(list, placesOf(name+"."+v.Type().Field(i).Name, v.Field(i))...)
		}
	case reflect.Slice:
		if v.Cap() > 0 {
			size := v.Type().Elem().Size()
			list = append(list, place{name, v.Pointer(), v.Pointer() + size*uintptr(v.Cap())})
		}
		for i := range v.Len() {
			list = append(list, placesOf(name+"["+strconv.Itoa(i)+"]", v.Index(i))...)
		}
	}
	return list
}

// wantApart asks that no two lists of all these share memory, not even what there is room for behind them.
func wantApart(t *testing.T, what string, values ...any) {
	t.Helper()
	var list []place
	for i, x := range values {
		list = append(list, placesOf(strconv.Itoa(i), reflect.ValueOf(x))...)
	}
	slices.SortFunc(list, func(a place, b place) int {
		if a.from < b.from {
			return -1
		}
		return 1
	})
	for i := 1; i < len(list); i++ {
		if list[i-1].to > list[i].from {
			t.Errorf("%s: %s and %s share memory", what, list[i-1].name, list[i].name)
		}
	}
}

func TestP9SameAnswers(t *testing.T) {
	for _, told := range []bool{false, true} {
		a := full[impl.Answer](told)
		if !impl.SameAnswers(a, a) || !impl.SameAnswers(a, roomyCopy(a)) {
			t.Error("not the same as itself")
		}
		for _, other := range variantsOf("it", reflect.ValueOf(a)) {
			b := other.value.Interface().(impl.Answer)
			if impl.SameAnswers(a, b) || impl.SameAnswers(b, a) {
				t.Errorf("the same with %s", other.name)
			}
		}
	}
	empty := impl.Answer{Lsa: impl.Lsa{Links: []impl.Link{}, Routers: []int64{}}, Base: impl.Base{Entries: []impl.Entry{}}, Items: []impl.Item{}}
	if !impl.SameAnswers(empty, impl.Answer{}) || !impl.SameAnswers(impl.Answer{}, empty) {
		t.Error("an empty list and nil are not the same")
	}
}

// emptied has empty lists instead of nil ones.
func emptied(v reflect.Value) reflect.Value {
	return copied(v, 0)
}

func TestP9SameWorlds(t *testing.T) {
	for _, told := range []bool{false, true} {
		a := full[impl.World](told)
		if !impl.SameWorlds(a, a) || !impl.SameWorlds(a, roomyCopy(a)) {
			t.Error("not the same as itself")
		}
		variants := variantsOf("it", reflect.ValueOf(a))
		if len(variants) < 1000 {
			t.Fatalf("there are only %d of them", len(variants))
		}
		for _, other := range variants {
			b := other.value.Interface().(impl.World)
			if impl.SameWorlds(a, b) || impl.SameWorlds(b, a) {
				t.Errorf("the same with %s", other.name)
			}
			if !impl.SameWorlds(b, b) {
				t.Errorf("not the same as itself with %s", other.name)
			}
		}
	}
	few := impl.World{Shards: make([]impl.Base, 1), Queues: make([]impl.Queue, 1), Workers: []impl.Worker{{Pages: make([]impl.Base, 1)}}, Log: make([]impl.LogEntry, 1), Done: make([]impl.Finished, 1)}
	for _, w := range []impl.World{{}, few} {
		empty := emptied(reflect.ValueOf(w)).Interface().(impl.World)
		if !impl.SameWorlds(empty, w) || !impl.SameWorlds(w, empty) {
			t.Error("an empty list and nil are not the same")
		}
	}
}

func TestP9SameWorldsOfWorldsThatWere(t *testing.T) {
	c := config(3, 3, 2, 8)
	events := tellingTale(c)
	for n := range events {
		a, b := world(t, c, events[:n]), world(t, c, events[:n+1])
		if !impl.SameWorlds(a, world(t, c, events[:n])) || impl.SameWorlds(a, b) || impl.SameWorlds(b, a) {
			t.Errorf("behind %d events", n)
		}
		// Each event turns something, and not Codes alone.
		b.Codes = b.Codes[:n]
		if impl.SameWorlds(a, b) {
			t.Errorf("event %d turns Codes alone", n)
		}
	}
	for _, f := range world(t, c, events).Done {
		for _, g := range world(t, c, events).Done {
			if impl.SameAnswers(f.Answer, g.Answer) != alike(f.Answer, g.Answer) {
				t.Errorf("the answers of %d and of %d", f.At, g.At)
			}
		}
	}
}

// tellingTale has each op, some of them at work at the end; of each list of a world there is something in it.
func tellingTale(c impl.Config) []impl.Event {
	a, b := with(routerLsa(4, point(1, 2, 3), transit(4, 5, 6)), aged(3000)), networkLsa(5, 6, 7, 8, 9)
	d := with(routerLsa(9, point(7, 7, 7)), aged(9))
	return tale(
		wholes(c, 0, installOp(a), installOp(b), installOp(d), tickOp(10), snapOp(), lookupOp(a.Key), lookupOp(b.Key), popOp(0), popOp(0), bytesOp(1, 2), snapOp()),
		wholes(c, 1, installOp(a), tickOp(1000), installOp(with(a, sequenced(3))), removeOp(b.Key), popOp(1), popOp(1), snapOp()),
		call(0, snapOp()), step(0, 3), call(1, lookupOp(d.Key)), step(1, 3), call(2, installOp(with(d, sequenced(9)))), step(2, 1),
	)
}

func oddConfigs() []impl.Config {
	list := []impl.Config{{}, config(1, 1, make([]int64, 100000)...), {Caps: []int64{1}}}
	for _, n := range oddNumbers() {
		list = append(list, config(n, 1), config(1, n), config(2, 2, n), config(n, n, n, n), config(1, 1, 1, n), config(n, 1, n, n, n))
	}
	return list
}

func oddOps() []impl.Op {
	list := []impl.Op{{}, bytesOp(make([]byte, 1000000)...), bytesOp(make([]byte, 400)...), bytesOp(filled(400, 255)...)}
	for _, n := range oddNumbers() {
		list = append(list, impl.Op{Kind: n}, tickOp(n), popOp(n), lookupOp(key(n, n, n)), removeOp(key(1, n, 0)), lookupOp(key(n, 1, 1)), removeOp(key(2, 2, n)))
		list = append(list, impl.Op{Kind: n, Data: []byte{1}, Key: key(n, n, n), N: n}, impl.Op{Kind: impl.OpSnap, N: n})
	}
	for _, l := range oddLsas() {
		list = append(list, installOp(l), lookupOp(l.Key), removeOp(l.Key))
	}
	return append(list, soundOps()...)
}

func oddEvents() []impl.Event {
	list := []impl.Event{{}}
	for _, n := range oddNumbers() {
		list = append(list, impl.Event{Kind: n}, impl.Event{Kind: impl.EvStep, Worker: n}, impl.Event{Kind: impl.EvShut, Worker: n}, impl.Event{Kind: n, Worker: n, Op: impl.Op{Kind: n, N: n}})
	}
	for i, o := range oddOps() {
		list = append(list, impl.Event{Kind: impl.EvCall, Worker: int64(i % 4), Op: o}, impl.Event{Kind: impl.EvStep, Worker: int64(i % 4)})
	}
	return list
}

func TestP1EveryFunctionOfTheWorldAnswers(t *testing.T) {
	for _, c := range oddConfigs() {
		code := impl.ConfigFault(c)
		if code != impl.OK && code != impl.ErrMany && code != impl.ErrRange {
			t.Errorf("an odd config has the fault %d", code)
		}
		wantConfigFault(t, "an odd config", c, code)
	}
	for _, o := range oddOps() {
		code := impl.OpFault(o)
		if code != impl.OK && code != impl.ErrForm && code != impl.ErrMany && code != impl.ErrRange {
			t.Errorf("%s has the fault %d", opName(o), code)
		}
		wantOpFault(t, opName(o), o, code)
	}
	for _, n := range oddNumbers() {
		for _, k := range []impl.Key{key(n, 1, 1), key(1, n, 1), key(1, 1, n), key(n, n, n)} {
			told := impl.IntResult{Code: impl.ErrRange}
			if impl.OpFault(lookupOp(k)) == impl.OK {
				told = impl.IntResult{Value: plainShard(config(3, 1), k)}
			}
			wantInt(t, "an odd Key", impl.ShardOf(config(3, 1), k), told)
		}
	}
	all := oddEvents()
	for at := 0; at < len(all); at += impl.MaxEvents {
		part := all[at:min(len(all), at+impl.MaxEvents)]
		for _, c := range []impl.Config{config(1, 1), config(3, 4, 1, 8)} {
			want(t, "odd events", world(t, c, part), plainWorld(c, part))
		}
	}
	wantWorldCode(t, "all of them", impl.RunWorld(config(1, 1), all), impl.ErrMany)
	for _, b := range oddBases() {
		told := impl.MergeShards([]impl.Base{baseAt(5), b})
		wanted := impl.BaseResult{Code: impl.BaseFault(b)}
		if wanted.Code == impl.OK && b.Now != 5 {
			wanted.Code = impl.ErrState
		}
		if wanted.Code == impl.OK {
			wanted.Base = b
		}
		wantBase(t, "odd shards", told, wanted)
	}
}

func TestP1WorldsChangeNoArgument(t *testing.T) {
	confs := append(configs(), config(0, 1, 3), config(1, 1, 1, 2, 3), config(1, 1, 9))
	for i, conf := range confs {
		c := chance(i)
		tales := [][]impl.Event{randomTale(&c, config(4, 4, 1, 1), 150, 100), randomTale(&c, config(4, 4, 1, 1), impl.MaxEvents+3, 100), {}}
		if impl.ConfigFault(conf) == impl.OK {
			tales = append(tales, tellingTale(conf))
		}
		for _, events := range tales {
			givenConf, given := roomyCopy(conf), roomyCopy(events)
			beforeConf, before := wholeCopy(givenConf), wholeCopy(given)
			impl.RunWorld(givenConf, given)
			impl.ConfigFault(givenConf)
			impl.ShardOf(givenConf, key(1, 2, 3))
			for _, e := range given {
				impl.EventFault(e)
				impl.OpFault(e.Op)
			}
			want(t, "a config", wholeCopy(givenConf), beforeConf)
			want(t, "events", wholeCopy(given), before)
		}
	}
	for _, told := range []bool{false, true} {
		a, b := roomyCopy(full[impl.World](told)), roomyCopy(full[impl.World](told))
		before := wholeCopy(a)
		impl.SameWorlds(a, b)
		impl.SameAnswers(a.Workers[0].Answer, b.Workers[0].Answer)
		want(t, "worlds", wholeCopy(a), before)
		want(t, "worlds", wholeCopy(b), before)
	}
}

// mergeLists are lists of shards with codes and without.
func mergeLists() [][]impl.Base {
	var list [][]impl.Base
	for _, b := range bases() {
		at := len(b.Entries) / 2
		list = append(list, []impl.Base{b}, []impl.Base{baseAt(b.Now, b.Entries[at:]...), baseAt(b.Now, b.Entries[:at]...)})
		list = append(list, []impl.Base{b, b}, []impl.Base{b, baseAt(b.Now + 1)}, slices.Repeat([]impl.Base{b}, 5))
	}
	return append(list, nil, []impl.Base{baseAt(9, entry(keyed(2, 1, 1), 0), entry(keyed(1, 1, 1), 0)), baseAt(9)})
}

func TestP1MergedShardsAreNewMemory(t *testing.T) {
	for _, list := range mergeLists() {
		given := roomyCopy(list)
		before := wholeCopy(given)
		first, second := impl.MergeShards(given), impl.MergeShards(given)
		wantApart(t, "shards", given, first, second)
		want(t, "shards", wholeCopy(given), before)
		want(t, "once more", first, second)
		// The lists of an argument may share memory, those of an answer do not.
		wantApart(t, "shards that share", impl.MergeShards(list))
	}
}

func TestP1WorldsAreNewMemory(t *testing.T) {
	for i, conf := range configs() {
		c := chance(i)
		for _, events := range [][]impl.Event{tellingTale(conf), randomTale(&c, conf, impl.MaxEvents, 150)} {
			givenConf, given := roomyCopy(conf), roomyCopy(events)
			for _, n := range []int{0, 10, 33, 52, 74, 90, len(events)} {
				n = min(n, len(events))
				first, second := impl.RunWorld(givenConf, given[:n]), impl.RunWorld(givenConf, given[:n])
				wantApart(t, "behind "+strconv.Itoa(n)+" events", givenConf, given, first, second)
			}
		}
	}
}

func TestP1TheListsOfAWorldShareNoMemory(t *testing.T) {
	// One and the same list of bytes comes with many events, and each of them is at work, acted or ended.
	c := config(4, 4, 8, 8)
	o := installOp(routerLsa(4, point(1, 2, 3), transit(4, 5, 6)))
	// Two snapshots take the same pages, which the shards still have.
	snaps := tale(call(2, snapOp()), step(2, 2), call(3, snapOp()), step(3, 4), step(2, 2))
	events := tale(whole(c, 0, o), whole(c, 0, snapOp()), whole(c, 0, lookupOp(key(1, 4, 4))), whole(c, 0, popOp(1)), call(0, o), call(1, o), step(1, 2), snaps, step(0, 1), step(1, 1))
	for n := range len(events) + 1 {
		first, second := impl.RunWorld(c, events[:n]), impl.RunWorld(c, events[:n])
		wantApart(t, "behind "+strconv.Itoa(n)+" events", c, first, second)
		for _, e := range events[:n] {
			wantApart(t, "with the bytes of an event", e, first)
		}
	}
	last := world(t, c, events)
	if len(last.Workers[2].Pages) != 3 || len(last.Workers[3].Pages) != 3 || len(last.Workers[1].Op.Data) == 0 || len(last.Log) != 7 || len(last.Done) != 4 {
		t.Fatalf("not all lists have something in them: %v", last)
	}
}

func TestP1WorldsHangOnArgumentsAlone(t *testing.T) {
	for i, conf := range configs() {
		c := chance(i + 500)
		events := randomTale(&c, conf, 150, 100)
		first := world(t, conf, events)
		impl.RunWorld(config(4, 4, 1, 1), tellingTale(config(4, 4, 1, 1)))
		impl.RunWorld(impl.Config{}, nil)
		want(t, "once more", world(t, roomyCopy(conf), roomyCopy(events)), first)
	}
}
