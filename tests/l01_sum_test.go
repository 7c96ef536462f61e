package tests

import (
	"bytes"
	"math"
	"strconv"
	"testing"

	"loop.example/g00732/impl"
)

// limitOf is 256 to the power of size: the first number that has no room in size bytes.
func limitOf(size int64) int64 {
	limit := int64(1)
	for range size {
		limit *= 256
	}
	return limit
}

// patternOf makes size bytes that look unordered but are the same in every run.
func patternOf(size int, seed uint32) []byte {
	data := make([]byte, size)
	for i := range data {
		seed = seed*1664525 + 1013904223
		data[i] = byte(seed >> 24)
	}
	return data
}

func filled(size int, b byte) []byte {
	return bytes.Repeat([]byte{b}, size)
}

// samples are inputs of many sizes, those at the edges of the chapter among them.
func samples() [][]byte {
	list := [][]byte{
		{0, 0}, {0, 255}, {255, 0}, {255, 255}, {1, 2}, {254, 254}, {5, 9, 9}, {255, 255, 255},
		filled(impl.MaxBytes, 0), filled(impl.MaxBytes, 254), filled(impl.MaxBytes, 255),
	}
	for _, size := range []int{2, 3, 4, 5, 17, 64, 254, 255, 256, 257, impl.MaxBytes - 1, impl.MaxBytes} {
		list = append(list, patternOf(size, uint32(size)))
	}
	return list
}

// plainFletcher is the sum by its definition: every sum of the first bytes is made anew.
func plainFletcher(data []byte) (int64, int64) {
	var low, high int64
	for end := 1; end <= len(data); end++ {
		low = 0
		for _, b := range data[:end] {
			low = (low + int64(b)) % 255
		}
		high = (high + low) % 255
	}
	return low, high
}

func wantBytes(t *testing.T, what string, got impl.BytesResult, want []byte) {
	t.Helper()
	if got.Code != impl.OK || string(got.Bytes) != string(want) {
		t.Errorf("%s: got code %d, bytes %v, want bytes %v", what, got.Code, got.Bytes, want)
	}
}

func wantBytesCode(t *testing.T, what string, got impl.BytesResult, code int64) {
	t.Helper()
	if got.Code != code || len(got.Bytes) != 0 {
		t.Errorf("%s: got code %d, bytes %v, want code %d and nothing else", what, got.Code, got.Bytes, code)
	}
}

func wantInt(t *testing.T, what string, got impl.IntResult, want impl.IntResult) {
	t.Helper()
	if got != want {
		t.Errorf("%s: got %v, want %v", what, got, want)
	}
}

func wantPair(t *testing.T, what string, got impl.PairResult, want impl.PairResult) {
	t.Helper()
	if got != want {
		t.Errorf("%s: got %v, want %v", what, got, want)
	}
}

func TestCodesHaveTheirNumbers(t *testing.T) {
	codes := []int64{
		impl.OK, impl.ErrForm, impl.ErrMany, impl.ErrRange, impl.ErrNone, impl.ErrText,
		impl.ErrSum, impl.ErrOld, impl.ErrState, impl.ErrFull, impl.ErrClosed,
	}
	for want, got := range codes {
		if got != int64(want) {
			t.Errorf("code %d has the number %d", want, got)
		}
	}
	if impl.MaxBytes != 400 {
		t.Errorf("MaxBytes is %d", impl.MaxBytes)
	}
}

func TestP2PackWordHighestByteFirst(t *testing.T) {
	wantBytes(t, "0 in 1", impl.PackWord(0, 1), []byte{0})
	wantBytes(t, "255 in 1", impl.PackWord(255, 1), []byte{255})
	wantBytes(t, "258 in 3", impl.PackWord(258, 3), []byte{0, 1, 2})
	wantBytes(t, "256 in 2", impl.PackWord(256, 2), []byte{1, 0})
	wantBytes(t, "all six differ", impl.PackWord(0x010203040506, 6), []byte{1, 2, 3, 4, 5, 6})
	wantBytes(t, "high bits", impl.PackWord(0xfedcba98, 4), []byte{0xfe, 0xdc, 0xba, 0x98})
}

func TestP2PackWordAtTheLimitOfEachSize(t *testing.T) {
	for size := int64(1); size <= 6; size++ {
		name := "size " + strconv.FormatInt(size, 10)
		wantBytes(t, name+", least", impl.PackWord(0, size), make([]byte, size))
		wantBytes(t, name+", greatest", impl.PackWord(limitOf(size)-1, size), filled(int(size), 255))
		wantBytesCode(t, name+", limit", impl.PackWord(limitOf(size), size), impl.ErrRange)
		wantBytesCode(t, name+", above", impl.PackWord(limitOf(size)+1, size), impl.ErrRange)
		wantBytesCode(t, name+", far above", impl.PackWord(math.MaxInt64, size), impl.ErrRange)
		wantBytesCode(t, name+", below 0", impl.PackWord(-1, size), impl.ErrRange)
		wantBytesCode(t, name+", far below", impl.PackWord(math.MinInt64, size), impl.ErrRange)
	}
}

func TestP2PackWordSizeOutOfBounds(t *testing.T) {
	for _, size := range []int64{0, 7, 8, 9, -1, 64, 1 << 61, math.MaxInt64, math.MinInt64} {
		for _, n := range []int64{0, 1, -1, math.MaxInt64, math.MinInt64} {
			wantBytesCode(t, "size "+strconv.FormatInt(size, 10), impl.PackWord(n, size), impl.ErrRange)
		}
	}
}

func TestP2ReadWordReadsPackWordBack(t *testing.T) {
	for size := int64(1); size <= 6; size++ {
		limit := limitOf(size)
		for _, n := range []int64{0, 1, 2, 127, 128, 254, 255, limit / 3, limit / 2, limit - 2, limit - 1} {
			word := impl.PackWord(n, size).Bytes
			name := strconv.FormatInt(n, 10) + " in " + strconv.FormatInt(size, 10)
			wantInt(t, name, impl.ReadWord(word, 0, size), impl.IntResult{Value: n})
			inside := append(append([]byte{7, 8, 9}, word...), 10, 11)
			wantInt(t, name+", inside", impl.ReadWord(inside, 3, size), impl.IntResult{Value: n})
		}
	}
}

func TestP2ReadWordAtTheEndOfData(t *testing.T) {
	data := []byte{1, 2, 3, 4, 5, 6}
	for size := int64(1); size <= 6; size++ {
		last := int64(len(data)) - size
		name := "size " + strconv.FormatInt(size, 10)
		got := impl.ReadWord(data, last, size)
		if got.Code != impl.OK || string(impl.PackWord(got.Value, size).Bytes) != string(data[last:]) {
			t.Errorf("%s, at the end: got %v", name, got)
		}
		wantInt(t, name+", one further", impl.ReadWord(data, last+1, size), impl.IntResult{Code: impl.ErrRange})
		wantInt(t, name+", at the length", impl.ReadWord(data, 6, size), impl.IntResult{Code: impl.ErrRange})
	}
	wantInt(t, "a word of less than there is", impl.ReadWord(data, 1, 2), impl.IntResult{Value: 2*256 + 3})
}

func TestP2ReadWordOfLongData(t *testing.T) {
	data := append(make([]byte, 2*impl.MaxBytes), 3, 4)
	wantInt(t, "behind MaxBytes", impl.ReadWord(data, 2*impl.MaxBytes, 2), impl.IntResult{Value: 3*256 + 4})
}

func TestP2ReadWordOutOfBounds(t *testing.T) {
	data := []byte{1, 2, 3, 4, 5, 6, 7, 8}
	bad := impl.IntResult{Code: impl.ErrRange}
	for _, size := range []int64{0, 7, 8, -1, math.MaxInt64, math.MinInt64} {
		wantInt(t, "size "+strconv.FormatInt(size, 10), impl.ReadWord(data, 0, size), bad)
	}
	for _, at := range []int64{-1, 8, 9, math.MaxInt64, math.MaxInt64 - 1, math.MinInt64} {
		for size := int64(1); size <= 6; size++ {
			wantInt(t, "at "+strconv.FormatInt(at, 10), impl.ReadWord(data, at, size), bad)
		}
	}
	wantInt(t, "no bytes", impl.ReadWord(nil, 0, 1), bad)
	wantInt(t, "no bytes, not nil", impl.ReadWord([]byte{}, 0, 1), bad)
}

func TestP2SameBytes(t *testing.T) {
	same := [][2][]byte{{nil, nil}, {nil, {}}, {{}, nil}, {{0}, {0}}, {{1, 2, 3}, {1, 2, 3}}}
	for _, p := range same {
		if !impl.SameBytes(p[0], p[1]) {
			t.Errorf("%v and %v: not the same", p[0], p[1])
		}
	}
	other := [][2][]byte{{nil, {0}}, {{0}, nil}, {{1, 2}, {2, 1}}, {{1, 2}, {1, 2, 0}}, {{1, 2, 0}, {1, 2}}, {{0}, {255}}, {{1, 2}, {1, 3}}, {{1, 2}, {3, 2}}}
	for _, p := range other {
		if impl.SameBytes(p[0], p[1]) {
			t.Errorf("%v and %v: the same", p[0], p[1])
		}
	}
	if long := make([]byte, 3*impl.MaxBytes); !impl.SameBytes(long, bytes.Clone(long)) {
		t.Error("long lists: not the same")
	}
}

func TestP2FletcherOf(t *testing.T) {
	wantPair(t, "1 and 2", impl.FletcherOf([]byte{1, 2}), impl.PairResult{Low: 3, High: 4})
	wantPair(t, "2 and 1", impl.FletcherOf([]byte{2, 1}), impl.PairResult{Low: 3, High: 5})
	wantPair(t, "nil", impl.FletcherOf(nil), impl.PairResult{})
	wantPair(t, "empty", impl.FletcherOf([]byte{}), impl.PairResult{})
	wantPair(t, "254", impl.FletcherOf([]byte{254}), impl.PairResult{Low: 254, High: 254})
	wantPair(t, "255", impl.FletcherOf([]byte{255}), impl.PairResult{})
	wantPair(t, "255 and 1", impl.FletcherOf([]byte{255, 1}), impl.PairResult{Low: 1, High: 1})
	wantPair(t, "1 and 255", impl.FletcherOf([]byte{1, 255}), impl.PairResult{Low: 1, High: 2})
	for _, data := range samples() {
		low, high := plainFletcher(data)
		wantPair(t, "a sample of "+strconv.Itoa(len(data)), impl.FletcherOf(data), impl.PairResult{Low: low, High: high})
	}
}

func TestP2FletcherOfAtMaxBytes(t *testing.T) {
	// 400 times 1 and 1 + 2 + .. + 400 = 80200, both modulo 255.
	wantPair(t, "MaxBytes", impl.FletcherOf(filled(impl.MaxBytes, 1)), impl.PairResult{Low: 145, High: 130})
	wantPair(t, "MaxBytes of 255", impl.FletcherOf(filled(impl.MaxBytes, 255)), impl.PairResult{})
	wantPair(t, "one more", impl.FletcherOf(filled(impl.MaxBytes+1, 1)), impl.PairResult{Code: impl.ErrMany})
	wantPair(t, "many more", impl.FletcherOf(filled(10*impl.MaxBytes, 1)), impl.PairResult{Code: impl.ErrMany})
}

func TestP2SealFletcherKnownSeals(t *testing.T) {
	wantBytes(t, "5 ahead", impl.SealFletcher([]byte{5, 0, 0}, 1), []byte{5, 245, 5})
	wantBytes(t, "what was there does not count", impl.SealFletcher([]byte{5, 77, 255}, 1), []byte{5, 245, 5})
	// Low is 7 and High 7 with two zeros ahead of one byte: x is 2 * 7 - 7 and y 7 - 3 * 7.
	wantBytes(t, "7 behind", impl.SealFletcher([]byte{0, 0, 7}, 0), []byte{7, 241, 7})
	for _, two := range [][]byte{{0, 0}, {1, 2}, {255, 255}, {0, 255}} {
		wantBytes(t, "two bytes alone", impl.SealFletcher(two, 0), []byte{0, 0})
	}
	wantBytes(t, "bytes of 255", impl.SealFletcher(filled(5, 255), 2), []byte{255, 255, 0, 0, 255})
}

func TestP2SealedIsSealedAtEveryPlace(t *testing.T) {
	for _, data := range samples() {
		for at := 0; at+2 <= len(data); at++ {
			name := "size " + strconv.Itoa(len(data)) + ", at " + strconv.Itoa(at)
			got := impl.SealFletcher(data, int64(at))
			if got.Code != impl.OK || len(got.Bytes) != len(data) {
				t.Fatalf("%s: got code %d and %d bytes", name, got.Code, len(got.Bytes))
			}
			if low, high := plainFletcher(got.Bytes); low != 0 || high != 0 || !impl.IsSealed(got.Bytes) {
				t.Errorf("%s: not sealed: %d and %d", name, low, high)
			}
			if got.Bytes[at] == 255 || got.Bytes[at+1] == 255 {
				t.Errorf("%s: a byte of 255 where modulo 255 leaves 0", name)
			}
			if !bytes.Equal(got.Bytes[:at], data[:at]) || !bytes.Equal(got.Bytes[at+2:], data[at+2:]) {
				t.Errorf("%s: a byte beside the seal is another one", name)
			}
		}
	}
}

func TestP2SealFletcherCodes(t *testing.T) {
	wantBytesCode(t, "no bytes", impl.SealFletcher(nil, 0), impl.ErrRange)
	wantBytesCode(t, "no bytes, not nil", impl.SealFletcher([]byte{}, 0), impl.ErrRange)
	wantBytesCode(t, "no bytes, at -2", impl.SealFletcher(nil, -2), impl.ErrRange)
	wantBytesCode(t, "one byte", impl.SealFletcher([]byte{1}, 0), impl.ErrRange)
	wantBytesCode(t, "one byte behind", impl.SealFletcher([]byte{1, 2}, 1), impl.ErrRange)
	wantBytesCode(t, "no byte behind", impl.SealFletcher([]byte{1, 2}, 2), impl.ErrRange)
	for _, at := range []int64{-1, -2, 5, math.MaxInt64, math.MaxInt64 - 1, math.MinInt64} {
		wantBytesCode(t, "at "+strconv.FormatInt(at, 10), impl.SealFletcher([]byte{1, 2, 3, 4}, at), impl.ErrRange)
	}
	wantBytesCode(t, "MaxBytes, beyond", impl.SealFletcher(make([]byte, impl.MaxBytes), impl.MaxBytes-1), impl.ErrRange)
	long := make([]byte, impl.MaxBytes+1)
	wantBytesCode(t, "too many", impl.SealFletcher(long, 0), impl.ErrMany)
	for _, at := range []int64{-1, impl.MaxBytes, math.MaxInt64, math.MinInt64} {
		wantBytesCode(t, "ErrMany is asked ahead of ErrRange", impl.SealFletcher(long, at), impl.ErrMany)
	}
}

func TestP2IsSealed(t *testing.T) {
	sealed := [][]byte{{0}, {255}, {0, 0}, {0, 255}, {255, 255}, {5, 245, 5}, make([]byte, impl.MaxBytes), filled(impl.MaxBytes, 255)}
	for _, data := range sealed {
		if !impl.IsSealed(data) {
			t.Errorf("%v: not sealed", data)
		}
	}
	// {1, 254} has Low 0 alone, {1, 253} has High 0 alone.
	open := [][]byte{nil, {}, {1}, {254}, {1, 254}, {1, 253}, {5, 245, 6}, {245, 5, 5}, make([]byte, impl.MaxBytes+1), filled(impl.MaxBytes+1, 255)}
	for _, data := range open {
		if impl.IsSealed(data) {
			t.Errorf("%d bytes %v: sealed", len(data), data)
		}
	}
}

func TestP2EachTurnedBitIsTold(t *testing.T) {
	for _, data := range samples() {
		for _, at := range []int{0, (len(data) - 2) / 2, len(data) - 2} {
			sealed := impl.SealFletcher(data, int64(at)).Bytes
			for bit := range 8 * len(sealed) {
				sealed[bit/8] ^= 1 << (bit % 8)
				if impl.IsSealed(sealed) {
					t.Errorf("size %d, seal at %d: bit %d is not told", len(data), at, bit)
				}
				sealed[bit/8] ^= 1 << (bit % 8)
			}
		}
	}
}

// oddNumbers are the ones at which shifts, sums and conversions go wrong first.
func oddNumbers() []int64 {
	list := []int64{math.MinInt64, math.MinInt64 + 1, math.MaxInt64 - 1, math.MaxInt64}
	for shift := range 63 {
		n := int64(1) << shift
		list = append(list, n-1, n, n+1, -n)
	}
	return list
}

func TestP1EveryFunctionAnswersAtEveryArgument(t *testing.T) {
	lists := append(samples(), nil, []byte{}, []byte{255}, make([]byte, impl.MaxBytes+1))
	for _, n := range oddNumbers() {
		for _, m := range oddNumbers() {
			if got := impl.PackWord(n, m); got.Code != impl.OK && got.Code != impl.ErrRange {
				t.Errorf("PackWord(%d, %d): code %d", n, m, got.Code)
			}
			if got := impl.ReadWord([]byte{1, 2, 3}, n, m); got.Code != impl.OK && got != (impl.IntResult{Code: impl.ErrRange}) {
				t.Errorf("ReadWord at %d of %d: got %v", n, m, got)
			}
		}
		for _, data := range lists {
			impl.SealFletcher(data, n)
			impl.ReadWord(data, n, 6)
		}
	}
	for _, a := range lists {
		impl.FletcherOf(a)
		impl.IsSealed(a)
		for _, b := range lists {
			if impl.SameBytes(a, b) != (string(a) == string(b)) {
				t.Errorf("SameBytes of %v and %v", a, b)
			}
		}
	}
}

// callAll calls each function of the chapter that takes a list, with codes and without.
func callAll(data []byte) {
	for _, at := range []int64{-1, 0, 1, int64(len(data)) - 2, int64(len(data))} {
		impl.SealFletcher(data, at)
		impl.ReadWord(data, at, 2)
	}
	impl.FletcherOf(data)
	impl.IsSealed(data)
	impl.SameBytes(data, data)
}

func TestP1ArgumentsAreNotChanged(t *testing.T) {
	for _, data := range append(samples(), make([]byte, impl.MaxBytes+1)) {
		// The room behind the end belongs to the caller, too.
		whole := append(bytes.Clone(data), 91, 92, 93, 94)
		before := bytes.Clone(whole)
		callAll(whole[:len(data)])
		if !bytes.Equal(whole, before) {
			t.Errorf("a list of %d bytes was changed", len(data))
		}
	}
}

func TestP1AnswersAreNewMemory(t *testing.T) {
	data := []byte{5, 0, 0, 9}
	first := impl.SealFletcher(data, 1).Bytes
	second := impl.SealFletcher(data, 1).Bytes
	want := string(first)
	for i := range first {
		first[i]++
	}
	if string(second) != want || string(data) != string([]byte{5, 0, 0, 9}) {
		t.Error("two seals, or a seal and what it is of, share memory")
	}
	clear(data)
	if string(second) != want {
		t.Error("a seal hangs on its argument after the call")
	}
	word := impl.PackWord(258, 3).Bytes
	clear(word)
	wantBytes(t, "a word once more", impl.PackWord(258, 3), []byte{0, 1, 2})
}

func TestP1AnswersAlreadySealedAreNewMemory(t *testing.T) {
	data := []byte{5, 245, 5}
	got := impl.SealFletcher(data, 1).Bytes
	clear(got)
	wantBytes(t, "sealed once more", impl.SealFletcher(data, 1), []byte{5, 245, 5})
}

func TestP1AnswersHangOnArgumentsAlone(t *testing.T) {
	for _, data := range samples() {
		// The same bytes, with other room behind them.
		other := append(make([]byte, 0, len(data)+50), data...)
		sum, seal := impl.FletcherOf(data), impl.SealFletcher(data, 0)
		word := impl.ReadWord(data, 0, 2)
		callAll(filled(impl.MaxBytes+1, 3))
		callAll([]byte{1, 2, 3})
		wantPair(t, "the sum once more", impl.FletcherOf(other), sum)
		wantBytes(t, "the seal once more", impl.SealFletcher(other, 0), seal.Bytes)
		wantInt(t, "the word once more", impl.ReadWord(other, 0, 2), word)
	}
}
