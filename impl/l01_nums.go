package impl

import (
	"math/bits"
	"strconv"
	"strings"
)

const MaxTime = 1000000000
const MaxNum = 1000000000000
const MaxInt = 9223372036854775807

// maxRoot is Root(MaxInt): no greater number has a square that an int holds.
const maxRoot = 3037000499

const lineEnd = 10

func isNumber(n int) bool { return n >= 0 && n <= MaxNum }

func isTime(n int) bool { return n >= 0 && n <= MaxTime }

// AddSat compares ahead of adding, since a sum that has passed an end has wrapped round and can't be told any more.
func AddSat(a int, b int) int {
	if b > 0 && a > MaxInt-b {
		return MaxInt
	}
	if b < 0 && a < -MaxInt-1-b {
		return -MaxInt - 1
	}
	return a + b
}

func Clamp(n int, lo int, hi int) int {
	if n < lo {
		return lo
	}
	if n > hi {
		return hi
	}
	return n
}

func AddTime(a int, b int) int {
	return min(Clamp(a, 0, MaxTime)+Clamp(b, 0, MaxTime), MaxTime)
}

func Root(n int) int {
	if n < 1 {
		return 0
	}
	return lastThat(1, maxRoot+1, func(r int) bool { return r*r <= n })
}

// lastThat is the greatest number of which holds says true. It must say true of lo and false of hi, and change once between them; it is never asked of hi.
func lastThat(lo int, hi int, holds func(int) bool) int {
	for range bits.Len(uint(hi - lo)) {
		mid := lo + (hi-lo)/2
		if holds(mid) {
			lo = mid
		} else {
			hi = mid
		}
	}
	return lo
}

// Share takes the product in two words, since it may pass the range of one.
func Share(n int, a int, b int) int {
	if !isNumber(n) || !isNumber(a) || !isNumber(b) || b == 0 {
		return 0
	}
	high, low := bits.Mul64(uint64(n), uint64(a))
	if high >= uint64(b) { // the quotient wouldn't fit in one word, and Div64 would panic
		return MaxInt
	}
	quotient, _ := bits.Div64(high, low, uint64(b))
	return int(min(quotient, MaxInt))
}

func NumText(n int) string {
	if !isNumber(n) {
		return ""
	}
	return strconv.Itoa(n)
}

// TextNum asks for the way back too, since Atoi also reads signs and 0 in front.
func TextNum(s string) (int, bool) {
	n, err := strconv.Atoi(s)
	if err != nil || NumText(n) != s {
		return 0, false
	}
	return n, true
}

// Cut copies its parts, since a piece of a string shares that string's memory.
func Cut(s string, by byte) []string {
	parts := strings.Split(s, string([]byte{by}))
	for i, part := range parts {
		parts[i] = strings.Clone(part)
	}
	return parts
}

func Lines(s string) []string {
	lines := Cut(s, lineEnd)
	last := len(lines) - 1
	if lines[last] == "" { // an end of line ends a line; it doesn't begin an empty one
		return lines[:last]
	}
	return lines
}
