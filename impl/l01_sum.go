package impl

import "bytes"

const OK = 0
const ErrForm = 1
const ErrMany = 2
const ErrRange = 3
const ErrNone = 4
const ErrText = 5
const ErrSum = 6
const ErrOld = 7
const ErrState = 8
const ErrFull = 9
const ErrClosed = 10
const MaxBytes = 400

// maxWordSize is the largest number of bytes that a word may have.
const maxWordSize = 6

// sumModulus is what both sums are taken modulo; being 255, it lets a byte of 255 count as one of 0.
const sumModulus = 255

type IntResult struct {
	Code  int64
	Value int64
}
type BytesResult struct {
	Code  int64
	Bytes []byte
}
type PairResult struct {
	Code int64
	Low  int64
	High int64
}

func PackWord(n int64, size int64) BytesResult {
	// The size is asked first: a shift by a size out of bounds would panic or overflow.
	if !allWithin(1, maxWordSize, size) || !allWithin(0, 1<<(8*size)-1, n) {
		return BytesResult{Code: ErrRange}
	}
	word := make([]byte, size)
	for i := range word {
		word[len(word)-1-i] = byte(n >> (8 * i))
	}
	return BytesResult{Bytes: word}
}

func ReadWord(data []byte, at int64, size int64) IntResult {
	// The size is taken from the length, not added to at, which may be as large as an int64 can be.
	if !allWithin(1, maxWordSize, size) || !allWithin(0, int64(len(data))-size, at) {
		return IntResult{Code: ErrRange}
	}
	var n int64
	for _, b := range data[at : at+size] {
		n = n<<8 | int64(b)
	}
	return IntResult{Value: n}
}

func FletcherOf(data []byte) PairResult {
	if len(data) > MaxBytes {
		return PairResult{Code: ErrMany}
	}
	// No remainder is taken on the way: MaxBytes keeps both sums far below 2 to the power of 53,
	// up to which the parts of a complex number hold whole numbers exactly.
	var sums complex128
	for _, b := range data {
		low := real(sums) + float64(b)
		sums = complex(low, imag(sums)+low)
	}
	return PairResult{Low: sumRest(int64(real(sums))), High: sumRest(int64(imag(sums)))}
}

func SealFletcher(data []byte, at int64) BytesResult {
	size := int64(len(data))
	if size > MaxBytes {
		return BytesResult{Code: ErrMany}
	}
	if !allWithin(0, size-2, at) {
		return BytesResult{Code: ErrRange}
	}
	sealed := bytes.Clone(data)
	sealed[at], sealed[at+1] = 0, 0
	sums := FletcherOf(sealed)
	// In the high sum the first of the two bytes counts behind + 2 times and the second one
	// behind + 1 times; these two values are the ones that bring both sums to 0.
	behind := size - at - 2
	sealed[at] = byte(sumRest((behind+1)*sums.Low - sums.High))
	sealed[at+1] = byte(sumRest(sums.High - (behind+2)*sums.Low))
	return BytesResult{Bytes: sealed}
}

func IsSealed(data []byte) bool {
	sums := FletcherOf(data)
	return len(data) > 0 && sums == PairResult{}
}

func SameBytes(a []byte, b []byte) bool {
	return bytes.Equal(a, b)
}

// sumRest is what sumModulus leaves of n, at least 0 even where n is below 0 (% alone is not).
func sumRest(n int64) int64 {
	return (n%sumModulus + sumModulus) % sumModulus
}

// allWithin tells whether each of values is from low to high.
func allWithin(low int64, high int64, values ...int64) bool {
	for _, v := range values {
		if v < low || v > high {
			return false
		}
	}
	return true
}
