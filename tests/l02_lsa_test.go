package tests

import (
	"bytes"
	"encoding/binary"
	"math"
	"slices"
	"strconv"
	"testing"

	"loop.example/g00732/impl"
)

func point(to int64, own int64, cost int64) impl.Link {
	return impl.Link{Kind: impl.LinkPoint, To: to, Own: own, Cost: cost}
}

func transit(to int64, own int64, cost int64) impl.Link {
	return impl.Link{Kind: impl.LinkTransit, To: to, Own: own, Cost: cost}
}

func routerLsa(id int64, links ...impl.Link) impl.Lsa {
	return impl.Lsa{Key: impl.Key{Type: impl.TypeRouter, Id: id, Adv: id}, Links: links}
}

func networkLsa(id int64, adv int64, mask int64, routers ...int64) impl.Lsa {
	return impl.Lsa{Key: impl.Key{Type: impl.TypeNetwork, Id: id, Adv: adv}, Mask: mask, Routers: routers}
}

func summaryLsa(id int64, adv int64, mask int64, cost int64) impl.Lsa {
	return impl.Lsa{Key: impl.Key{Type: impl.TypeSummary, Id: id, Adv: adv}, Mask: mask, Cost: cost}
}

// with is l after the turns; l itself and its lists stay as they are.
func with(l impl.Lsa, turns ...func(l *impl.Lsa)) impl.Lsa {
	l = cloneLsa(l)
	for _, turn := range turns {
		turn(&l)
	}
	return l
}

func cloneLsa(l impl.Lsa) impl.Lsa {
	l.Links, l.Routers = slices.Clone(l.Links), slices.Clone(l.Routers)
	return l
}

func aged(age int64) func(l *impl.Lsa)      { return func(l *impl.Lsa) { l.Age = age } }
func optioned(n int64) func(l *impl.Lsa)    { return func(l *impl.Lsa) { l.Options = n } }
func typed(n int64) func(l *impl.Lsa)       { return func(l *impl.Lsa) { l.Key.Type = n } }
func identified(n int64) func(l *impl.Lsa)  { return func(l *impl.Lsa) { l.Key.Id = n } }
func advertised(n int64) func(l *impl.Lsa)  { return func(l *impl.Lsa) { l.Key.Adv = n } }
func sequenced(seq int64) func(l *impl.Lsa) { return func(l *impl.Lsa) { l.Seq = seq } }
func masked(n int64) func(l *impl.Lsa)      { return func(l *impl.Lsa) { l.Mask = n } }
func costing(n int64) func(l *impl.Lsa)     { return func(l *impl.Lsa) { l.Cost = n } }
func linked(list ...impl.Link) func(l *impl.Lsa) {
	return func(l *impl.Lsa) { l.Links = list }
}
func routed(list ...int64) func(l *impl.Lsa) {
	return func(l *impl.Lsa) { l.Routers = list }
}

func manyLinks(n int) []impl.Link {
	var list []impl.Link
	for i := range n {
		list = append(list, impl.Link{Kind: 1 + int64(i)%2, To: int64(90 - i), Own: int64(i), Cost: int64(i * i)})
	}
	return list
}

func manyRouters(n int) []int64 {
	var list []int64
	for i := range n {
		list = append(list, int64(3*i))
	}
	return list
}

// ordinary has advertisements of each Type, far from all edges.
func ordinary() []impl.Lsa {
	return []impl.Lsa{
		with(routerLsa(5, point(6, 7, 8)), aged(1), optioned(2), sequenced(3)),
		with(routerLsa(77, point(12, 13, 14), transit(12, 13, 14), point(1, 2, 3)), aged(900), optioned(34), sequenced(-70000)),
		with(networkLsa(11, 1, 255, 1, 2), aged(17), optioned(9), sequenced(80000)),
		with(networkLsa(123456789, 987654321, 4294901760, 5, 66000, 987654321), aged(1234), optioned(128), sequenced(-5)),
		with(summaryLsa(11, 1, 65280, 70000), aged(60), optioned(1), sequenced(1234567)),
		with(summaryLsa(1, 11, 4278190080, 1), aged(3000), optioned(254), sequenced(-1)),
	}
}

// edgy has advertisements without a fault at every edge that the chapter names.
func edgy() []impl.Lsa {
	list := []impl.Lsa{
		routerLsa(0), routerLsa(impl.MaxId),
		routerLsa(1, manyLinks(impl.MaxLinks)...), routerLsa(1, manyLinks(impl.MaxLinks-1)...),
		routerLsa(2, point(0, 0, 0)), routerLsa(2, transit(0, 0, 0)), routerLsa(2, point(0, 0, 0), point(0, 0, 0)),
		routerLsa(2, point(impl.MaxId, impl.MaxId, impl.MaxCost), transit(impl.MaxId, impl.MaxId, impl.MaxCost)),
		networkLsa(0, 0, 0, 0), networkLsa(impl.MaxId, impl.MaxId, impl.MaxId, impl.MaxId), networkLsa(3, 4, 0, 0, impl.MaxId),
		networkLsa(3, 4, 5, manyRouters(impl.MaxLinks)...), networkLsa(3, 4, 5, manyRouters(impl.MaxLinks-1)...),
		networkLsa(3, 3, 5, impl.MaxId-1, impl.MaxId),
		summaryLsa(0, 0, 0, 0), summaryLsa(impl.MaxId, impl.MaxId, impl.MaxId, impl.MaxFar), summaryLsa(6, 6, 0, impl.MaxFar-1),
	}
	for _, l := range ordinary() {
		list = append(list, l)
		for _, age := range []int64{0, 1, 255, 256, impl.MaxAge - 1, impl.MaxAge} {
			list = append(list, with(l, aged(age)))
		}
		for _, seq := range []int64{impl.MinSeq, impl.MinSeq + 1, -2, -1, 0, 1, impl.MaxSeq - 1, impl.MaxSeq} {
			list = append(list, with(l, sequenced(seq)))
		}
		for _, n := range []int64{0, 1, 127, 128, 255} {
			list = append(list, with(l, optioned(n)))
		}
	}
	return list
}

// plainBytes writes the bytes of an advertisement anew, with zeros where the sum is.
func plainBytes(l impl.Lsa) []byte {
	word := binary.BigEndian.AppendUint32
	var body []byte
	switch l.Key.Type {
	case impl.TypeRouter:
		body = append(body, 0, 0, 0, byte(len(l.Links)))
		for _, k := range l.Links {
			body = word(word(body, uint32(k.To)), uint32(k.Own))
			body = append(body, byte(k.Kind), 0, byte(k.Cost>>8), byte(k.Cost))
		}
	case impl.TypeNetwork:
		body = word(body, uint32(l.Mask))
		for _, id := range l.Routers {
			body = word(body, uint32(id))
		}
	case impl.TypeSummary:
		body = word(word(body, uint32(l.Mask)), uint32(l.Cost))
	}
	head := []byte{byte(l.Age >> 8), byte(l.Age), byte(l.Options), byte(l.Key.Type)}
	head = word(word(word(head, uint32(l.Key.Id)), uint32(l.Key.Adv)), uint32(int32(l.Seq)))
	return append(append(head, 0, 0, 0, byte(20+len(body))), body...)
}

// resealed is data with the sum that fits to it; the chapter on sums has its own tests.
func resealed(data []byte) []byte {
	return append(bytes.Clone(data[:2]), impl.SealFletcher(data[2:], 14).Bytes...)
}

// turned is data with the byte at the place turned to b, and sealed again.
func turned(data []byte, at int, b byte) []byte {
	data = bytes.Clone(data)
	data[at] = b
	return resealed(data)
}

// sized is data with its own length told in it, and sealed again.
func sized(data []byte) []byte {
	return resealed(slices.Concat(data[:18], []byte{byte(len(data) >> 8), byte(len(data))}, data[20:]))
}

func nameOf(l impl.Lsa) string {
	return "type " + strconv.FormatInt(l.Key.Type, 10) + ", bytes " + strconv.Quote(string(plainBytes(l)))
}

func isZeroLsa(l impl.Lsa) bool {
	return l.Age == 0 && l.Options == 0 && l.Key == impl.Key{} && l.Seq == 0 &&
		len(l.Links) == 0 && len(l.Routers) == 0 && l.Mask == 0 && l.Cost == 0
}

// wantFault asks the fault of l of all that tell it, and that nothing else is told beside it.
func wantFault(t *testing.T, what string, l impl.Lsa, code int64) {
	t.Helper()
	if got := impl.LsaFault(l); got != code {
		t.Errorf("%s: LsaFault is %d, want %d", what, got, code)
	}
	if code != impl.OK {
		wantBytesCode(t, what+", EncodeLsa", impl.EncodeLsa(l), code)
		wantInt(t, what+", SumOf", impl.SumOf(l), impl.IntResult{Code: code})
		return
	}
	if got := impl.EncodeLsa(l); got.Code != impl.OK || len(got.Bytes) < impl.HeadSize {
		t.Errorf("%s: EncodeLsa tells code %d, bytes %v", what, got.Code, got.Bytes)
	}
	if got := impl.SumOf(l); got.Code != impl.OK {
		t.Errorf("%s: SumOf tells code %d", what, got.Code)
	}
}

func wantRead(t *testing.T, what string, data []byte, want impl.Lsa) {
	t.Helper()
	if got := impl.DecodeLsa(data); got.Code != impl.OK || !impl.SameLsas(got.Lsa, want) {
		t.Errorf("%s: got %v, want %v", what, got, want)
	}
}

func wantUnread(t *testing.T, what string, data []byte, code int64) {
	t.Helper()
	if got := impl.DecodeLsa(data); got.Code != code || !isZeroLsa(got.Lsa) {
		t.Errorf("%s: got %v, want code %d and nothing else", what, got, code)
	}
}

func TestLsaConstantsHaveTheirNumbers(t *testing.T) {
	got := []int64{
		impl.TypeRouter, impl.TypeNetwork, impl.TypeSummary, impl.LinkPoint, impl.LinkTransit, impl.HeadSize, impl.MaxAge,
		impl.MaxId, impl.MinSeq, impl.MaxSeq, impl.MaxCost, impl.MaxFar, impl.MaxLinks,
	}
	want := []int64{1, 2, 3, 1, 2, 20, 3600, 4294967295, -2147483647, 2147483647, 65535, 16777215, 8}
	if !slices.Equal(got, want) {
		t.Errorf("got %v, want %v", got, want)
	}
}

func TestP3EncodeLsaKnownBytes(t *testing.T) {
	// Written by hand; the sum is left 0 here, as wantSealed does not compare it.
	r := with(routerLsa(0x01020304, transit(0x05060708, 0x090a0b0c, 0x0d0e)), aged(0x0e10), optioned(0xff), sequenced(-1))
	want := []byte{
		0x0e, 0x10, 0xff, 1, 1, 2, 3, 4, 1, 2, 3, 4, 255, 255, 255, 255, 0, 0, 0, 36,
		0, 0, 0, 1, 5, 6, 7, 8, 9, 10, 11, 12, 2, 0, 13, 14,
	}
	wantSealed(t, "router", impl.EncodeLsa(r), want)
	n := with(networkLsa(0x01020304, 0x05060708, 0xfffefdfc, 1, 0x0a0b0c0d), sequenced(impl.MinSeq))
	want = []byte{
		0, 0, 0, 2, 1, 2, 3, 4, 5, 6, 7, 8, 128, 0, 0, 1, 0, 0, 0, 32,
		255, 254, 253, 252, 0, 0, 0, 1, 10, 11, 12, 13,
	}
	wantSealed(t, "network", impl.EncodeLsa(n), want)
	s := with(summaryLsa(0x01020304, 0x05060708, 0x090a0b0c, 0x0d0e0f), sequenced(0x10111213))
	want = []byte{
		0, 0, 0, 3, 1, 2, 3, 4, 5, 6, 7, 8, 16, 17, 18, 19, 0, 0, 0, 28,
		9, 10, 11, 12, 0, 13, 14, 15,
	}
	wantSealed(t, "summary", impl.EncodeLsa(s), want)
	wantSealed(t, "router without links", impl.EncodeLsa(routerLsa(1)),
		[]byte{0, 0, 0, 1, 0, 0, 0, 1, 0, 0, 0, 1, 0, 0, 0, 0, 0, 0, 0, 24, 0, 0, 0, 0})
}

// wantSealed asks the bytes beside the sum, and that the sum is the one of two bytes below 255 that seals.
func wantSealed(t *testing.T, what string, got impl.BytesResult, want []byte) {
	t.Helper()
	if got.Code != impl.OK || len(got.Bytes) != len(want) {
		t.Fatalf("%s: got code %d and %d bytes, want %d bytes", what, got.Code, len(got.Bytes), len(want))
	}
	if !bytes.Equal(got.Bytes[:16], want[:16]) || !bytes.Equal(got.Bytes[18:], want[18:]) {
		t.Errorf("%s: got %v, want (but the sum) %v", what, got.Bytes, want)
	}
	if low, high := plainFletcher(got.Bytes[2:]); low != 0 || high != 0 || got.Bytes[16] == 255 || got.Bytes[17] == 255 {
		t.Errorf("%s: not sealed by %v", what, got.Bytes[16:18])
	}
}

func TestP3EncodeLsaOfEachEdge(t *testing.T) {
	for _, l := range edgy() {
		wantFault(t, nameOf(l), l, impl.OK)
		wantSealed(t, nameOf(l), impl.EncodeLsa(l), plainBytes(l))
	}
}

func TestP3AdvertisementsAreReadBack(t *testing.T) {
	for _, l := range edgy() {
		data := impl.EncodeLsa(l).Bytes
		wantRead(t, nameOf(l), data, l)
		wantBytes(t, nameOf(l)+", once more", impl.EncodeLsa(impl.DecodeLsa(data).Lsa), data)
	}
}

func TestP3DecodeLsaTellsEachField(t *testing.T) {
	// Field by field, so that a SameLsas that overlooks one does not hide it here.
	l := with(routerLsa(5, point(6, 7, 8), transit(9, 10, 11)), aged(1), optioned(2), sequenced(-3))
	r := impl.DecodeLsa(impl.EncodeLsa(l).Bytes).Lsa
	if r.Age != 1 || r.Options != 2 || r.Key != l.Key || r.Seq != -3 || !slices.Equal(r.Links, l.Links) || len(r.Routers) != 0 || r.Mask != 0 || r.Cost != 0 {
		t.Errorf("router: %v", r)
	}
	l = with(networkLsa(5, 6, 7, 8, 9), aged(1), optioned(2), sequenced(3))
	r = impl.DecodeLsa(impl.EncodeLsa(l).Bytes).Lsa
	if r.Age != 1 || r.Options != 2 || r.Key != l.Key || r.Seq != 3 || len(r.Links) != 0 || !slices.Equal(r.Routers, l.Routers) || r.Mask != 7 || r.Cost != 0 {
		t.Errorf("network: %v", r)
	}
	l = with(summaryLsa(5, 6, 7, 8), aged(1), optioned(2), sequenced(impl.MinSeq))
	r = impl.DecodeLsa(impl.EncodeLsa(l).Bytes).Lsa
	if r.Age != 1 || r.Options != 2 || r.Key != l.Key || r.Seq != impl.MinSeq || len(r.Links) != 0 || len(r.Routers) != 0 || r.Mask != 7 || r.Cost != 8 {
		t.Errorf("summary: %v", r)
	}
}

func TestP3DifferentAdvertisementsHaveDifferentBytes(t *testing.T) {
	list := edgy()
	for i, a := range list {
		for _, b := range list[:i] {
			same := bytes.Equal(impl.EncodeLsa(a).Bytes, impl.EncodeLsa(b).Bytes)
			if same != impl.SameLsas(a, b) {
				t.Errorf("%s and %s: the same bytes: %v", nameOf(a), nameOf(b), same)
			}
		}
	}
}

func TestP3SumOf(t *testing.T) {
	for _, l := range edgy() {
		data := impl.EncodeLsa(l).Bytes
		want := int64(data[16])*256 + int64(data[17])
		wantInt(t, nameOf(l), impl.SumOf(l), impl.IntResult{Value: want})
		for _, age := range []int64{0, 7, impl.MaxAge} {
			wantInt(t, nameOf(l)+", of another age", impl.SumOf(with(l, aged(age))), impl.IntResult{Value: want})
		}
	}
	// Of the bytes 1 at 1, 5 and 9 and 24 at 17 of 22: Low 27, High 21 + 17 + 13 + 5 * 24 = 171,
	// and 6 behind: x is 7 * 27 - 171 = 18, y is 171 - 8 * 27 = -45.
	wantInt(t, "worked out by hand", impl.SumOf(routerLsa(1)), impl.IntResult{Value: 18*256 + 210})
}

func TestP3FaultFormOfTheType(t *testing.T) {
	wantFault(t, "nothing", impl.Lsa{}, impl.ErrForm)
	for _, l := range ordinary() {
		for _, n := range []int64{0, 4, 5, -1, 256 + l.Key.Type, -l.Key.Type, math.MaxInt64, math.MinInt64} {
			wantFault(t, "type "+strconv.FormatInt(n, 10), with(l, typed(n)), impl.ErrForm)
		}
		bare := with(l, linked(), routed(), masked(0), costing(0))
		wantFault(t, "no type and no body", with(bare, typed(0)), impl.ErrForm)
	}
}

func TestP3FaultFormOfWhatIsNotNeeded(t *testing.T) {
	r, n, s := routerLsa(5, point(6, 7, 8)), networkLsa(11, 1, 255, 1, 2), summaryLsa(11, 1, 255, 3)
	for _, v := range []int64{1, -1, impl.MaxId, impl.MaxId + 1, math.MaxInt64, math.MinInt64} {
		wantFault(t, "router with a mask", with(r, masked(v)), impl.ErrForm)
		wantFault(t, "router with a cost", with(r, costing(v)), impl.ErrForm)
		wantFault(t, "network with a cost", with(n, costing(v)), impl.ErrForm)
		wantFault(t, "router with a router", with(r, routed(v)), impl.ErrForm)
		wantFault(t, "summary with a router", with(s, routed(v)), impl.ErrForm)
		wantFault(t, "summary with a link", with(s, linked(point(v, 0, 0))), impl.ErrForm)
	}
	wantFault(t, "network with a link", with(n, linked(point(1, 2, 3))), impl.ErrForm)
	wantFault(t, "network with a zero link", with(n, linked(impl.Link{})), impl.ErrForm)
	wantFault(t, "router with a zero router", with(r, routed(0)), impl.ErrForm)
	wantFault(t, "summary with a zero link", with(s, linked(impl.Link{})), impl.ErrForm)
	wantFault(t, "summary with a zero router", with(s, routed(0)), impl.ErrForm)
	wantFault(t, "router with an empty list of routers", with(r, routed([]int64{}...)), impl.OK)
	wantFault(t, "summary with empty lists", with(s, linked([]impl.Link{}...), routed([]int64{}...)), impl.OK)
}

func TestP3FaultRangeOfNumbers(t *testing.T) {
	numbers := []struct {
		name      string
		turn      func(n int64) func(l *impl.Lsa)
		low, high int64
	}{
		{"age", aged, 0, impl.MaxAge},
		{"options", optioned, 0, 255},
		{"id", identified, 0, impl.MaxId},
		{"adv", advertised, 0, impl.MaxId},
		{"seq", sequenced, impl.MinSeq, impl.MaxSeq},
		{"mask", masked, 0, impl.MaxId},
		{"cost", costing, 0, impl.MaxFar},
	}
	for _, n := range numbers {
		for _, l := range ordinary() {
			if l.Key.Type == impl.TypeRouter && (n.name == "mask" || n.name == "cost") || l.Key.Type == impl.TypeNetwork && n.name == "cost" {
				continue
			}
			for _, v := range []int64{n.low - 1, n.high + 1, math.MinInt64, math.MaxInt64, n.high + 1<<32} {
				wantFault(t, n.name+" "+strconv.FormatInt(v, 10)+" of "+nameOf(l), with(l, n.turn(v)), impl.ErrRange)
			}
			for _, v := range []int64{n.low, n.high} {
				// The Id of a router is its Adv, whichever of them is turned.
				fits := with(l, n.turn(v))
				if l.Key.Type == impl.TypeRouter && n.name == "id" {
					fits.Key.Adv = v
				} else if l.Key.Type == impl.TypeRouter && n.name == "adv" {
					fits.Key.Id = v
				}
				wantFault(t, n.name+" "+strconv.FormatInt(v, 10)+" of "+nameOf(l), fits, impl.OK)
			}
		}
	}
}

func TestP3FaultManyLinksAndRouters(t *testing.T) {
	for _, n := range []int{impl.MaxLinks + 1, impl.MaxLinks + 2, 256, 1000} {
		wantFault(t, strconv.Itoa(n)+" links", routerLsa(1, manyLinks(n)...), impl.ErrMany)
		wantFault(t, strconv.Itoa(n)+" routers", networkLsa(1, 2, 3, manyRouters(n)...), impl.ErrMany)
	}
	for n := 0; n <= impl.MaxLinks; n++ {
		wantFault(t, strconv.Itoa(n)+" links", routerLsa(1, manyLinks(n)...), impl.OK)
		if n > 0 {
			wantFault(t, strconv.Itoa(n)+" routers", networkLsa(1, 2, 3, manyRouters(n)...), impl.OK)
		}
	}
	wantFault(t, "network without routers", networkLsa(1, 2, 3), impl.ErrMany)
	wantFault(t, "network with an empty list", with(networkLsa(1, 2, 3), routed([]int64{}...)), impl.ErrMany)
}

func TestP3FaultRangeOfLinksAndRouters(t *testing.T) {
	bad := []impl.Link{
		{}, {Kind: 3}, {Kind: -1}, {Kind: 257}, {Kind: math.MaxInt64}, {Kind: math.MinInt64},
		point(-1, 0, 0), point(impl.MaxId+1, 0, 0), point(math.MaxInt64, 0, 0), point(math.MinInt64, 0, 0),
		point(0, -1, 0), point(0, impl.MaxId+1, 0), transit(0, math.MaxInt64, 0), transit(0, math.MinInt64, 0),
		point(0, 0, -1), point(0, 0, impl.MaxCost+1), transit(0, 0, math.MaxInt64), transit(0, 0, math.MinInt64),
	}
	for _, k := range bad {
		for at := range impl.MaxLinks {
			links := manyLinks(impl.MaxLinks)
			links[at] = k
			wantFault(t, "link "+strconv.Itoa(at), routerLsa(1, links...), impl.ErrRange)
		}
	}
	for _, id := range []int64{-1, impl.MaxId + 1, math.MaxInt64, math.MinInt64} {
		for at := range impl.MaxLinks {
			routers := manyRouters(impl.MaxLinks)
			routers[at] = id
			wantFault(t, "router "+strconv.Itoa(at), networkLsa(1, 2, 3, routers...), impl.ErrRange)
		}
	}
}

func TestP3FaultFormOfWhatDoesNotFitTogether(t *testing.T) {
	for _, list := range [][]int64{{2, 1}, {1, 1}, {0, 0}, {1, 2, 2}, {1, 3, 2}, {3, 1, 2}, {1, 2, 3, 4, 5, 6, 8, 7}, {impl.MaxId, 0}} {
		wantFault(t, "routers that do not rise", networkLsa(1, 2, 3, list...), impl.ErrForm)
	}
	wantFault(t, "id below adv", with(routerLsa(5, point(1, 2, 3)), identified(4)), impl.ErrForm)
	wantFault(t, "id above adv", with(routerLsa(5), advertised(4)), impl.ErrForm)
	wantFault(t, "id 0, adv the highest", with(routerLsa(0), advertised(impl.MaxId)), impl.ErrForm)
	wantFault(t, "network of another adv", networkLsa(1, 2, 3, 4), impl.OK)
	wantFault(t, "summary of another adv", summaryLsa(1, 2, 3, 4), impl.OK)
}

func TestP3FaultsAreAskedInOrder(t *testing.T) {
	bad := aged(-1)
	wantFault(t, "no type ahead of a number", impl.Lsa{Age: -1}, impl.ErrForm)
	wantFault(t, "what is not needed ahead of a number", with(routerLsa(1), masked(1), bad), impl.ErrForm)
	wantFault(t, "what is not needed ahead of how many", with(networkLsa(1, 2, 3), costing(1)), impl.ErrForm)
	wantFault(t, "what is not needed ahead of a link", with(routerLsa(1, impl.Link{}), costing(1)), impl.ErrForm)
	wantFault(t, "a number ahead of how many links", with(routerLsa(1, manyLinks(9)...), bad), impl.ErrRange)
	wantFault(t, "a mask ahead of how many routers", networkLsa(1, 2, -1), impl.ErrRange)
	wantFault(t, "a number ahead of how many routers", with(networkLsa(1, 2, 3, manyRouters(9)...), sequenced(impl.MaxSeq+1)), impl.ErrRange)
	wantFault(t, "a number ahead of what does not rise", networkLsa(impl.MaxId+1, 2, 3, 2, 1), impl.ErrRange)
	wantFault(t, "an id ahead of id and adv", with(routerLsa(1), identified(-1)), impl.ErrRange)
	wantFault(t, "how many ahead of a link", routerLsa(1, make([]impl.Link, 9)...), impl.ErrMany)
	wantFault(t, "how many links ahead of id and adv", with(routerLsa(1, manyLinks(9)...), identified(2)), impl.ErrMany)
	wantFault(t, "how many ahead of a router", networkLsa(1, 2, 3, append(manyRouters(8), -1)...), impl.ErrMany)
	wantFault(t, "how many ahead of what does not rise", networkLsa(1, 2, 3, make([]int64, 9)...), impl.ErrMany)
	wantFault(t, "a link ahead of id and adv", with(routerLsa(1, impl.Link{}), identified(2)), impl.ErrRange)
	wantFault(t, "a router ahead of what does not rise", networkLsa(1, 2, 3, 2, 1, -1), impl.ErrRange)
	wantFault(t, "a router ahead of what does not rise", networkLsa(1, 2, 3, impl.MaxId+1, 1), impl.ErrRange)
}

func TestP3DecodeLsaManyBytes(t *testing.T) {
	full := impl.EncodeLsa(routerLsa(1, manyLinks(impl.MaxLinks)...)).Bytes
	for n := range impl.HeadSize {
		wantUnread(t, "the first "+strconv.Itoa(n), full[:n], impl.ErrMany)
	}
	wantUnread(t, "nil", nil, impl.ErrMany)
	for _, n := range []int{impl.MaxBytes + 1, impl.MaxBytes + 2, 1000, 65535} {
		long := make([]byte, n)
		wantUnread(t, strconv.Itoa(n)+" zeros", long, impl.ErrMany)
		binary.BigEndian.PutUint16(long[18:], uint16(n))
		wantUnread(t, strconv.Itoa(n)+" bytes, told so", long, impl.ErrMany)
	}
	wantUnread(t, "an advertisement and more", append(bytes.Clone(full), make([]byte, impl.MaxBytes)...), impl.ErrMany)
	for _, n := range []int{impl.HeadSize, impl.HeadSize + 1, impl.MaxBytes - 1, impl.MaxBytes} {
		wantUnread(t, strconv.Itoa(n)+" bytes, not told so", make([]byte, n), impl.ErrForm)
		// Zeros alone would be sealed; the bytes that tell the length break that.
		open := make([]byte, n)
		binary.BigEndian.PutUint16(open[18:], uint16(n))
		wantUnread(t, strconv.Itoa(n)+" bytes, not sealed", open, impl.ErrSum)
		wantUnread(t, strconv.Itoa(n)+" bytes, sealed", resealed(open), impl.ErrText)
	}
}

func TestP3DecodeLsaLengthToldWrong(t *testing.T) {
	for _, l := range edgy() {
		data := impl.EncodeLsa(l).Bytes
		n := len(data)
		for _, told := range []int{0, 1, impl.HeadSize, n - 12, n - 4, n - 1, n + 1, n + 4, n + 12, n + 256, impl.MaxBytes, 65535} {
			if told == n {
				continue
			}
			wrong := bytes.Clone(data)
			binary.BigEndian.PutUint16(wrong[18:], uint16(told))
			wantUnread(t, "told wrong, not sealed", wrong, impl.ErrForm)
			wantUnread(t, "told wrong, sealed", resealed(wrong), impl.ErrForm)
		}
		wantUnread(t, "the last byte is gone", data[:n-1], impl.ErrForm)
		wantUnread(t, "one byte more", append(bytes.Clone(data), 0), impl.ErrForm)
	}
}

func TestP3DecodeLsaLengthThatFitsToNoCount(t *testing.T) {
	for _, l := range edgy() {
		data := impl.EncodeLsa(l).Bytes
		step := 12
		if l.Key.Type == impl.TypeNetwork {
			step = 4
		}
		for more := 1; more < 26; more++ {
			long := sized(append(bytes.Clone(data), make([]byte, more)...))
			// Zeros are no router behind another one, and no link; what is not of full length is neither.
			wantUnread(t, strconv.Itoa(more)+" zeros more", long, impl.ErrText)
		}
		for less := 1; less <= len(data)-impl.HeadSize; less++ {
			short := sized(data[:len(data)-less])
			left := len(data) - less - 24
			if l.Key.Type == impl.TypeNetwork && left >= 4 && left%step == 0 {
				wantRead(t, "routers less", short, with(l, routed(l.Routers[:left/4]...)))
			} else {
				wantUnread(t, strconv.Itoa(less)+" bytes less", short, impl.ErrText)
			}
		}
	}
	two := impl.EncodeLsa(routerLsa(1, point(2, 3, 4), point(5, 6, 7))).Bytes
	for _, count := range []byte{0, 1, 3, 4, 8, 9, 255} {
		wantUnread(t, "another count of links", turned(two, 23, count), impl.ErrText)
	}
	wantUnread(t, "a count that is 256 too high", turned(two, 22, 1), impl.ErrText)
	wantRead(t, "one link less, and the count", sized(turned(two, 23, 1)[:36]), routerLsa(1, point(2, 3, 4)))
}

func TestP3DecodeLsaLengthThatFitsToAnotherType(t *testing.T) {
	// 28 bytes are a network of one router, or a summary.
	s := impl.EncodeLsa(summaryLsa(11, 1, 255, 70000)).Bytes
	wantRead(t, "a summary told as a network", turned(s, 3, impl.TypeNetwork), networkLsa(11, 1, 255, 70000))
	wantUnread(t, "a summary told as a router", turned(s, 3, impl.TypeRouter), impl.ErrText)
	n := impl.EncodeLsa(networkLsa(11, 1, 255, impl.MaxFar)).Bytes
	wantRead(t, "a network told as a summary", turned(n, 3, impl.TypeSummary), summaryLsa(11, 1, 255, impl.MaxFar))
	wantUnread(t, "a network told as a router", turned(n, 3, impl.TypeRouter), impl.ErrText)
	n = impl.EncodeLsa(networkLsa(11, 1, 255, impl.MaxFar+1)).Bytes
	wantUnread(t, "a network of a high router told as a summary", turned(n, 3, impl.TypeSummary), impl.ErrText)
	// 36 bytes are a router with one link, or a network of three routers.
	r := impl.EncodeLsa(routerLsa(5, point(6, 7, 8))).Bytes
	wantRead(t, "a router told as a network", turned(r, 3, impl.TypeNetwork), networkLsa(5, 5, 1, 6, 7, 1<<24+8))
	wantUnread(t, "a router told as a summary", turned(r, 3, impl.TypeSummary), impl.ErrText)
	r = impl.EncodeLsa(routerLsa(5, point(7, 6, 8))).Bytes
	wantUnread(t, "a router told as a network that does not rise", turned(r, 3, impl.TypeNetwork), impl.ErrText)
	n = impl.EncodeLsa(networkLsa(5, 5, 1, 6, 7, 2<<24+8)).Bytes
	wantRead(t, "a network told as a router", turned(n, 3, impl.TypeRouter), routerLsa(5, transit(6, 7, 8)))
	wantUnread(t, "a network of another adv told as a router", turned(turned(n, 3, impl.TypeRouter), 11, 6), impl.ErrText)
	n = impl.EncodeLsa(networkLsa(5, 5, 1, 6, 7, 3<<24+8)).Bytes
	wantUnread(t, "a network told as a router of another kind", turned(n, 3, impl.TypeRouter), impl.ErrText)
	n = impl.EncodeLsa(networkLsa(5, 5, 2, 6, 7, 1<<24+8)).Bytes
	wantUnread(t, "a network told as a router of another count", turned(n, 3, impl.TypeRouter), impl.ErrText)
}

func TestP3DecodeLsaNetworkWithoutRouters(t *testing.T) {
	// 24 bytes are a router without links; as a network they are one without routers, which there is not.
	r := impl.EncodeLsa(routerLsa(5)).Bytes
	wantUnread(t, "told as a network", turned(r, 3, impl.TypeNetwork), impl.ErrText)
	wantUnread(t, "told as a summary", turned(r, 3, impl.TypeSummary), impl.ErrText)
	n := impl.EncodeLsa(networkLsa(5, 5, 255, 1)).Bytes
	wantUnread(t, "the only router is gone", sized(n[:24]), impl.ErrText)
	n = impl.EncodeLsa(networkLsa(5, 5, 0, 1)).Bytes
	wantUnread(t, "the only router is gone, and no mask", sized(n[:24]), impl.ErrText)
	wantRead(t, "the same bytes told as a router", turned(sized(n[:24]), 3, impl.TypeRouter), routerLsa(5))
	for _, l := range ordinary() {
		wantUnread(t, "a head alone", sized(impl.EncodeLsa(l).Bytes[:impl.HeadSize]), impl.ErrText)
	}
}

func TestP3DecodeLsaSumIsAnotherOne(t *testing.T) {
	for _, l := range ordinary() {
		data := impl.EncodeLsa(l).Bytes
		for at := 2; at < len(data); at++ {
			if at == 18 || at == 19 {
				continue
			}
			other := bytes.Clone(data)
			other[at] += 100
			wantUnread(t, "byte "+strconv.Itoa(at), other, impl.ErrSum)
		}
		other := bytes.Clone(data)
		other[16], other[17] = 0, 0
		wantUnread(t, "no sum", other, impl.ErrSum)
	}
}

func TestP3DecodeLsaSealedButNoAdvertisement(t *testing.T) {
	r := impl.EncodeLsa(routerLsa(5, point(6, 7, 8), point(9, 10, 11))).Bytes
	n := impl.EncodeLsa(networkLsa(11, 1, 255, 1, 2)).Bytes
	s := impl.EncodeLsa(summaryLsa(11, 1, 255, 3)).Bytes
	for _, data := range [][]byte{r, n, s} {
		for _, kind := range []byte{0, 4, 5, 128, 255} {
			wantUnread(t, "no type", turned(data, 3, kind), impl.ErrText)
		}
		old := bytes.Clone(data)
		binary.BigEndian.PutUint16(old, impl.MaxAge+1)
		wantUnread(t, "an age that is too high", old, impl.ErrText)
		old[0], old[1] = 255, 255
		wantUnread(t, "the highest age of two bytes", old, impl.ErrText)
		low := bytes.Clone(data)
		copy(low[12:], []byte{128, 0, 0, 0})
		wantUnread(t, "the Seq below MinSeq", resealed(low), impl.ErrText)
	}
	for _, at := range []int{20, 21, 33, 45} {
		wantUnread(t, "no 0 where one has to be", turned(r, at, 1), impl.ErrText)
		wantUnread(t, "255, which the sum takes for 0", turned(r, at, 255), impl.ErrText)
	}
	for _, kind := range []byte{0, 3, 255} {
		wantUnread(t, "a kind of no link", turned(r, 44, kind), impl.ErrText)
	}
	wantUnread(t, "the Id is not the Adv", turned(r, 7, 6), impl.ErrText)
	wantUnread(t, "the Adv is not the Id", turned(r, 8, 1), impl.ErrText)
	wantUnread(t, "routers that do not rise", turned(n, 27, 3), impl.ErrText)
	wantUnread(t, "twice the same router", turned(n, 27, 2), impl.ErrText)
	wantUnread(t, "a cost of four bytes", turned(s, 24, 1), impl.ErrText)
	wantUnread(t, "a cost of four bytes, which the sum takes for 0", turned(s, 24, 255), impl.ErrText)
}

func TestP3DecodeLsaTooManyLinksAndRouters(t *testing.T) {
	for _, n := range []int{impl.MaxLinks + 1, 20, 31} {
		l := routerLsa(5, manyLinks(n)...)
		wantUnread(t, strconv.Itoa(n)+" links", sized(plainBytes(l)), impl.ErrText)
	}
	for _, n := range []int{impl.MaxLinks + 1, 20, 94} {
		l := networkLsa(5, 6, 7, manyRouters(n)...)
		wantUnread(t, strconv.Itoa(n)+" routers", sized(plainBytes(l)), impl.ErrText)
	}
	l := routerLsa(5, manyLinks(impl.MaxLinks)...)
	wantRead(t, "as many links as can be", sized(plainBytes(l)), l)
	l = networkLsa(5, 6, 7, manyRouters(impl.MaxLinks)...)
	wantRead(t, "as many routers as can be", sized(plainBytes(l)), l)
}

func TestP3DecodeLsaSumOf255InPlaceOf0(t *testing.T) {
	found := [2]bool{}
	for id := range int64(2000) {
		data := impl.EncodeLsa(summaryLsa(id, 1, 2, 3)).Bytes
		for i, at := range []int{16, 17} {
			if data[at] != 0 {
				continue
			}
			found[i] = true
			other := bytes.Clone(data)
			other[at] = 255
			wantUnread(t, "the sum of other bytes", other, impl.ErrText)
		}
	}
	if found != [2]bool{true, true} {
		t.Error("no sum with a byte of 0 was found")
	}
}

func TestP3DecodeLsaCodesAreAskedInOrder(t *testing.T) {
	data := impl.EncodeLsa(with(routerLsa(5, point(6, 7, 8)), aged(1))).Bytes
	old := bytes.Clone(data)
	old[0] = 255
	wantUnread(t, "sealed, but too old", old, impl.ErrText)
	old[27] = 9
	wantUnread(t, "the sum ahead of the age", old, impl.ErrSum)
	old[19] = 37
	wantUnread(t, "the length ahead of the sum", old, impl.ErrForm)
	wantUnread(t, "how many ahead of the length", old[:19], impl.ErrMany)
	wantUnread(t, "no type, not sealed", append(bytes.Clone(data[:3]), slices.Concat([]byte{9}, data[4:])...), impl.ErrSum)
}

func TestP3EachTurnedBitBehindTheAgeIsTold(t *testing.T) {
	for _, l := range edgy() {
		data := impl.EncodeLsa(l).Bytes
		for bit := 16; bit < 8*len(data); bit++ {
			data[bit/8] ^= 1 << (bit % 8)
			want := int64(impl.ErrSum)
			if bit/8 == 18 || bit/8 == 19 {
				want = impl.ErrForm
			}
			wantUnread(t, "bit "+strconv.Itoa(bit)+" of "+nameOf(l), data, want)
			data[bit/8] ^= 1 << (bit % 8)
		}
	}
}

func TestP3TurnedBitsOfTheAgeAreAnotherAge(t *testing.T) {
	for _, l := range ordinary() {
		data := impl.EncodeLsa(l).Bytes
		for bit := range 16 {
			data[bit/8] ^= 1 << (bit % 8)
			if age := int64(data[0])*256 + int64(data[1]); age <= impl.MaxAge {
				wantRead(t, "another age", data, with(l, aged(age)))
			} else {
				wantUnread(t, "no age", data, impl.ErrText)
			}
			data[bit/8] ^= 1 << (bit % 8)
		}
	}
}

func TestP3BytesThatAreReadAreThoseOfWhatWasRead(t *testing.T) {
	read := 0
	for seed := range uint32(4000) {
		sizes := []int{24, 28, 32, 36, 40, 48, 52, 60}
		// Bytes that are mostly small, so that many of them can be read.
		data := patternOf(sizes[seed%8], seed)
		for i := range data {
			data[i] = data[i] % 3 * (data[i] / 128)
		}
		copy(data[8:12], data[4:8])
		data[3] = byte(1 + seed/8%3)
		if data[3] == impl.TypeRouter {
			data[23] = byte(len(data)-24) / 12
		}
		data = sized(data)
		got := impl.DecodeLsa(data)
		if got.Code == impl.OK {
			read++
			wantFault(t, "what was read", got.Lsa, impl.OK)
			wantBytes(t, "what was read", impl.EncodeLsa(got.Lsa), data)
		} else {
			wantUnread(t, "what cannot be read", data, impl.ErrText)
		}
	}
	if read < 50 {
		t.Errorf("only %d were read", read)
	}
}

func TestP3SameLsas(t *testing.T) {
	full := impl.Lsa{
		Age: 1, Options: 2, Key: impl.Key{Type: 3, Id: 4, Adv: 5}, Seq: 6,
		Links: []impl.Link{{Kind: 7, To: 8, Own: 9, Cost: 10}, {Kind: 11}}, Routers: []int64{12, 13}, Mask: 14, Cost: 15,
	}
	turns := []func(l *impl.Lsa){
		aged(0), optioned(0), typed(0), identified(0), advertised(0), sequenced(0), masked(0), costing(0),
		linked(), linked(full.Links[0]), linked(full.Links[1], full.Links[0]), linked(full.Links[0], full.Links[1], impl.Link{}),
		linked(impl.Link{To: 8, Own: 9, Cost: 10}, full.Links[1]), linked(impl.Link{Kind: 7, Own: 9, Cost: 10}, full.Links[1]),
		linked(impl.Link{Kind: 7, To: 8, Cost: 10}, full.Links[1]), linked(impl.Link{Kind: 7, To: 8, Own: 9}, full.Links[1]),
		routed(), routed(12), routed(13, 12), routed(12, 13, 0), routed(12, 14),
	}
	for i, turn := range turns {
		other := with(full, turn)
		if impl.SameLsas(full, other) || impl.SameLsas(other, full) {
			t.Errorf("turn %d: the same", i)
		}
		if !impl.SameLsas(other, cloneLsa(other)) {
			t.Errorf("turn %d: not the same as itself", i)
		}
	}
	if !impl.SameLsas(full, cloneLsa(full)) || !impl.SameLsas(impl.Lsa{}, impl.Lsa{}) {
		t.Error("not the same")
	}
	empty := impl.Lsa{Links: []impl.Link{}, Routers: []int64{}}
	if !impl.SameLsas(empty, impl.Lsa{}) || !impl.SameLsas(impl.Lsa{}, empty) {
		t.Error("an empty list and nil are not the same")
	}
}

// oddLsas are advertisements of any numbers and lists, most of them with faults.
func oddLsas() []impl.Lsa {
	list := append(edgy(), impl.Lsa{})
	for i, n := range oddNumbers() {
		l := ordinary()[i%6]
		for _, turn := range []func(n int64) func(l *impl.Lsa){aged, optioned, typed, identified, advertised, sequenced, masked, costing} {
			list = append(list, with(l, turn(n)))
		}
		list = append(list, with(l, identified(n), advertised(n)))
		list = append(list, routerLsa(1, impl.Link{Kind: n, To: n, Own: n, Cost: n}), routerLsa(1, point(n, 0, 0)), routerLsa(1, point(0, 0, n)))
		list = append(list, networkLsa(1, 2, 3, n), networkLsa(1, 2, 3, 0, n), networkLsa(1, 2, 3, n, 0))
		list = append(list, with(l, linked(impl.Link{To: n}), routed(n), masked(n), costing(n)))
	}
	for n := int64(0); n <= 4; n++ {
		list = append(list, impl.Lsa{Key: impl.Key{Type: n}, Links: make([]impl.Link, 100000)})
		list = append(list, impl.Lsa{Key: impl.Key{Type: n}, Routers: make([]int64, 100000)})
	}
	return list
}

func TestP1EveryFunctionAnswersAtEveryAdvertisement(t *testing.T) {
	for _, l := range oddLsas() {
		code := impl.LsaFault(l)
		if code != impl.OK && code != impl.ErrForm && code != impl.ErrRange && code != impl.ErrMany {
			t.Errorf("fault %d", code)
		}
		wantFault(t, "an odd one", l, code)
		if !impl.SameLsas(l, cloneLsa(l)) {
			t.Error("not the same as itself")
		}
		if code == impl.OK {
			wantRead(t, "an odd one", impl.EncodeLsa(l).Bytes, l)
		}
	}
}

func TestP1DecodeLsaAnswersAtAllBytes(t *testing.T) {
	for n := range impl.MaxBytes + 3 {
		for kind := range byte(5) {
			data := patternOf(n, uint32(n))
			if n >= impl.HeadSize {
				data[3] = kind
				data = sized(data)
			}
			if got := impl.DecodeLsa(data); got.Code != impl.OK && !isZeroLsa(got.Lsa) {
				t.Errorf("%d bytes: code %d, and %v beside it", n, got.Code, got.Lsa)
			}
		}
	}
}

func TestP1AdvertisementsAreNotChanged(t *testing.T) {
	for _, l := range append(edgy(), routerLsa(1, manyLinks(9)...), networkLsa(1, 2, 3, 9, 8, 7), with(routerLsa(1, impl.Link{}), routed(3, 2))) {
		// The room behind the end of a list belongs to the caller, too.
		room := with(l, linked(append(slices.Clone(l.Links), impl.Link{Kind: 91}, impl.Link{Kind: 92})...), routed(append(slices.Clone(l.Routers), 93, 94)...))
		given := room
		given.Links, given.Routers = room.Links[:len(l.Links)], room.Routers[:len(l.Routers)]
		before := cloneLsa(room)
		impl.LsaFault(given)
		impl.SumOf(given)
		impl.EncodeLsa(given)
		impl.SameLsas(given, l)
		impl.SameLsas(l, given)
		if !slices.Equal(room.Links, before.Links) || !slices.Equal(room.Routers, before.Routers) || !impl.SameLsas(given, l) {
			t.Errorf("%s was changed", nameOf(l))
		}
	}
	for _, l := range edgy() {
		whole := append(impl.EncodeLsa(l).Bytes, 91, 92, 93, 94)
		before := bytes.Clone(whole)
		for n := range len(whole) + 1 {
			impl.DecodeLsa(whole[:n])
		}
		if !bytes.Equal(whole, before) {
			t.Errorf("the bytes of %s were changed", nameOf(l))
		}
	}
}

func TestP1AdvertisementsAreNewMemory(t *testing.T) {
	for _, l := range edgy() {
		want := cloneLsa(l)
		data := impl.EncodeLsa(l).Bytes
		kept := bytes.Clone(data)
		clear(impl.EncodeLsa(l).Bytes)
		wantBytes(t, "bytes, after others were turned", impl.BytesResult{Bytes: data}, kept)
		first, second := impl.DecodeLsa(data).Lsa, impl.DecodeLsa(data).Lsa
		clear(data)
		clear(first.Links)
		clear(first.Routers)
		if !impl.SameLsas(second, want) || !impl.SameLsas(l, want) {
			t.Errorf("%s: what was read shares memory", nameOf(l))
		}
		sealed := impl.EncodeLsa(second)
		clear(second.Links)
		clear(second.Routers)
		wantBytes(t, "bytes, after what they are of was turned", sealed, kept)
	}
}

func TestP1AdvertisementsHangOnArgumentsAlone(t *testing.T) {
	for _, l := range edgy() {
		data, sum := impl.EncodeLsa(l).Bytes, impl.SumOf(l)
		for _, other := range []impl.Lsa{{}, routerLsa(1, manyLinks(8)...), networkLsa(1, 2, 3), summaryLsa(1, 2, 3, 4)} {
			impl.LsaFault(other)
			impl.DecodeLsa(impl.EncodeLsa(other).Bytes)
		}
		room := with(l, linked(append(make([]impl.Link, 0, 50), l.Links...)...), routed(append(make([]int64, 0, 50), l.Routers...)...))
		wantBytes(t, nameOf(l)+", once more", impl.EncodeLsa(room), data)
		wantInt(t, nameOf(l)+", once more", impl.SumOf(room), sum)
		wantRead(t, nameOf(l)+", once more", append(make([]byte, 0, 500), data...), l)
	}
}
