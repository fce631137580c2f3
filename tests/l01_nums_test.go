package tests

import (
	"math/big"
	"math/rand"
	"slices"
	"strings"
	"testing"
	"unsafe"

	"loop.example/g00685/impl"
)

const minInt = -impl.MaxInt - 1

// edgeInts are the ends of all ranges of the chapter, with their neighbours.
func edgeInts() []int {
	var l []int
	for _, mid := range []int{0, 10, impl.MaxTime / 2, impl.MaxTime, impl.MaxNum / 2, impl.MaxNum, impl.MaxInt / 2, -impl.MaxTime, -impl.MaxNum, -impl.MaxInt / 2} {
		l = append(l, mid-1, mid, mid+1)
	}
	return append(l, minInt, minInt+1, minInt+2, impl.MaxInt-2, impl.MaxInt-1, impl.MaxInt)
}

// someInts are numbers of every length and both signs; the seed stands still so that a failure comes again.
func someInts(count int) []int {
	r := rand.New(rand.NewSource(1))
	l := make([]int, count)
	for i := range l {
		l[i] = int(r.Uint64()) >> r.Intn(64)
	}
	return l
}

func someNumbers(count int) []int {
	l := someInts(count)
	for i, n := range l {
		if n < 0 {
			n = -(n + 1)
		}
		l[i] = n % (impl.MaxNum + 1)
	}
	return l
}

func TestNumConstants(t *testing.T) {
	if impl.MaxTime != 1000000000 || impl.MaxNum != 1000000000000 || impl.MaxInt != 9223372036854775807 {
		t.Error("a constant of chapter 2 isn't what the document says")
	}
}

func TestAddSatAtTheEnds(t *testing.T) {
	for _, c := range []struct{ a, b, want int }{
		{0, 0, 0},
		{5, -7, -2},
		{impl.MaxInt - 1, 0, impl.MaxInt - 1},
		{impl.MaxInt - 2, 1, impl.MaxInt - 1},
		{impl.MaxInt - 1, 1, impl.MaxInt},
		{1, impl.MaxInt - 1, impl.MaxInt},
		{impl.MaxInt, 1, impl.MaxInt},
		{1, impl.MaxInt, impl.MaxInt},
		{impl.MaxInt, 0, impl.MaxInt},
		{0, impl.MaxInt, impl.MaxInt},
		{impl.MaxInt, impl.MaxInt, impl.MaxInt},
		{impl.MaxInt, -1, impl.MaxInt - 1},
		{minInt + 2, -1, minInt + 1},
		{minInt + 1, -1, minInt},
		{-1, minInt + 1, minInt},
		{minInt, -1, minInt},
		{-1, minInt, minInt},
		{minInt, 0, minInt},
		{0, minInt, minInt},
		{minInt, minInt, minInt},
		{minInt, 1, minInt + 1},
		{impl.MaxInt, minInt, -1},
		{minInt, impl.MaxInt, -1},
	} {
		if got := impl.AddSat(c.a, c.b); got != c.want {
			t.Errorf("AddSat(%d, %d) = %d, want %d", c.a, c.b, got, c.want)
		}
	}
}

func wantSum(a int, b int) int {
	sum := new(big.Int).Add(big.NewInt(int64(a)), big.NewInt(int64(b)))
	if !sum.IsInt64() {
		if sum.Sign() > 0 {
			return impl.MaxInt
		}
		return minInt
	}
	return int(sum.Int64())
}

func TestAddSatIsTheSumWithAnEnd(t *testing.T) {
	l := append(edgeInts(), someInts(200)...)
	for _, a := range l {
		for _, b := range l {
			if got, want := impl.AddSat(a, b), wantSum(a, b); got != want {
				t.Errorf("AddSat(%d, %d) = %d, want %d", a, b, got, want)
			}
		}
	}
}

func TestAddTime(t *testing.T) {
	for _, c := range []struct{ a, b, want int }{
		{0, 0, 0},
		{3, 4, 7},
		{-4, 5, 5},
		{5, -4, 5},
		{-4, -5, 0},
		{minInt, minInt, 0},
		{minInt, 7, 7},
		{impl.MaxTime, 0, impl.MaxTime},
		{impl.MaxTime - 1, 1, impl.MaxTime},
		{impl.MaxTime - 2, 1, impl.MaxTime - 1},
		{impl.MaxTime, 1, impl.MaxTime},
		{1, impl.MaxTime, impl.MaxTime},
		{impl.MaxTime, impl.MaxTime, impl.MaxTime},
		{impl.MaxTime + 1, 0, impl.MaxTime},
		{0, impl.MaxTime + 1, impl.MaxTime},
		{impl.MaxTime + 9, -9, impl.MaxTime},
		{-9, impl.MaxTime + 9, impl.MaxTime},
		{impl.MaxInt, impl.MaxInt, impl.MaxTime},
		{impl.MaxInt, minInt, impl.MaxTime},
		{minInt, impl.MaxInt, impl.MaxTime},
	} {
		if got := impl.AddTime(c.a, c.b); got != c.want {
			t.Errorf("AddTime(%d, %d) = %d, want %d", c.a, c.b, got, c.want)
		}
	}
}

func TestAddTimeEverywhere(t *testing.T) {
	inRange := func(n int) int { return min(max(n, 0), impl.MaxTime) }
	l := append(edgeInts(), someInts(100)...)
	for _, a := range l {
		for _, b := range l {
			if got, want := impl.AddTime(a, b), min(inRange(a)+inRange(b), impl.MaxTime); got != want {
				t.Errorf("AddTime(%d, %d) = %d, want %d", a, b, got, want)
			}
		}
	}
}

func TestClamp(t *testing.T) {
	for _, c := range []struct{ n, lo, hi, want int }{
		{2, 1, 3, 2},
		{0, 1, 3, 1},
		{1, 1, 3, 1},
		{3, 1, 3, 3},
		{4, 1, 3, 3},
		{5, 2, 2, 2},
		{minInt, -5, 5, -5},
		{impl.MaxInt, -5, 5, 5},
		{7, minInt, impl.MaxInt, 7},
		// lo above hi: lo is looked at first
		{0, 9, 2, 9},
		{5, 9, 2, 9},
		{8, 9, 2, 9},
		{9, 9, 2, 2},
		{10, 9, 2, 2},
		{2, 9, 2, 9},
		{minInt, impl.MaxInt, minInt, impl.MaxInt},
		{impl.MaxInt, impl.MaxInt, minInt, minInt},
	} {
		if got := impl.Clamp(c.n, c.lo, c.hi); got != c.want {
			t.Errorf("Clamp(%d, %d, %d) = %d, want %d", c.n, c.lo, c.hi, got, c.want)
		}
	}
}

func TestRootOfWhatIsBelowOne(t *testing.T) {
	for _, n := range []int{0, -1, -4, -impl.MaxInt, minInt} {
		if got := impl.Root(n); got != 0 {
			t.Errorf("Root(%d) = %d, want 0", n, got)
		}
	}
}

// checkSquare asks for the roots of the square of r (from 1 on), of one less and of one more.
func checkSquare(t *testing.T, r int) {
	t.Helper()
	for _, c := range []struct{ n, want int }{{r*r - 1, r - 1}, {r * r, r}, {r*r + 1, r}} {
		if got := impl.Root(c.n); got != c.want {
			t.Errorf("Root(%d) = %d, want %d", c.n, got, c.want)
		}
	}
}

func TestRootOfSquares(t *testing.T) {
	for r := 1; r <= 3000; r++ {
		checkSquare(t, r)
	}
	for bit := range 31 {
		for r := 1<<bit - 2; r <= 1<<bit+2; r++ {
			if r > 0 {
				checkSquare(t, r)
			}
		}
	}
	for _, n := range someNumbers(2000) {
		checkSquare(t, 1+n%3037000499)
	}
	checkSquare(t, 94906265) // about where a float's root begins to be off
	checkSquare(t, 94906267)
	checkSquare(t, 3037000498)
	checkSquare(t, 3037000499)
}

func TestRootIsExact(t *testing.T) {
	for _, n := range append(append(edgeInts(), 1, 2, 3, 4, impl.MaxInt), someInts(3000)...) {
		want := 0
		if n > 0 {
			want = int(new(big.Int).Sqrt(big.NewInt(int64(n))).Int64())
		}
		if got := impl.Root(n); got != want {
			t.Errorf("Root(%d) = %d, want %d", n, got, want)
		}
	}
}

func TestShare(t *testing.T) {
	const most = impl.MaxNum
	for _, c := range []struct{ n, a, b, want int }{
		{7, 3, 2, 10},
		{0, 5, 3, 0},
		{5, 0, 3, 0},
		{1, 1, 2, 0},
		{8, 1, 3, 2},
		{9, 1, 3, 3},
		{most, 1, 1, most},
		{1, 1, most, 0},
		// the product passes the range of int, but the answer doesn't
		{most, most, most, most},
		{most, most, most - 1, most + 1},
		{most, most - 1, most, most - 1},
		{most, 10000000, 10000000, most},
		{most, 20000000, 3, 6666666666666666666},
		{most, most, 108421, 9223305448206528255},
		// just at MaxInt, below and above it
		{47424961, 194483492287, 1, impl.MaxInt},
		{47424961 * 2, 194483492287, 2, impl.MaxInt},
		{2147483647, 4294967298, 1, impl.MaxInt - 1},
		{1 << 31, 1 << 32, 1, impl.MaxInt},
		{most, 9223372, 1, 9223372000000000000},
		{most, 9223373, 1, impl.MaxInt},
		{most, most, 108420, impl.MaxInt},
		// about where the answer doesn't fit in 64 bits at all
		{1 << 32, 1<<32 - 1, 1, impl.MaxInt},
		{1 << 32, 1 << 32, 1, impl.MaxInt},
		{1 << 32, 1<<32 + 1, 1, impl.MaxInt},
		{most, most, 54211, impl.MaxInt},
		{most, most, 54210, impl.MaxInt},
		{most, most, 1, impl.MaxInt},
	} {
		if got := impl.Share(c.n, c.a, c.b); got != c.want {
			t.Errorf("Share(%d, %d, %d) = %d, want %d", c.n, c.a, c.b, got, c.want)
		}
	}
}

func TestShareOfWhatIsNoNumber(t *testing.T) {
	for _, c := range [][3]int{{5, 5, 0}, {0, 0, 0}, {impl.MaxNum, impl.MaxNum, 0}} {
		if got := impl.Share(c[0], c[1], c[2]); got != 0 {
			t.Errorf("Share(%d, %d, %d) = %d, want 0", c[0], c[1], c[2], got)
		}
	}
	for place := range 3 {
		for _, wrong := range []int{-1, -5, minInt, impl.MaxNum + 1, impl.MaxInt} {
			args := [3]int{6, 6, 3}
			args[place] = wrong
			if got := impl.Share(args[0], args[1], args[2]); got != 0 {
				t.Errorf("Share(%d, %d, %d) = %d, want 0", args[0], args[1], args[2], got)
			}
			great := [3]int{impl.MaxNum, impl.MaxNum, 1}
			great[place] = wrong
			if got := impl.Share(great[0], great[1], great[2]); got != 0 {
				t.Errorf("Share(%d, %d, %d) = %d, want 0", great[0], great[1], great[2], got)
			}
		}
	}
}

func wantShare(n int, a int, b int) int {
	for _, x := range []int{n, a, b} {
		if x < 0 || x > impl.MaxNum {
			return 0
		}
	}
	if b == 0 {
		return 0
	}
	product := new(big.Int).Mul(big.NewInt(int64(n)), big.NewInt(int64(a)))
	share := product.Quo(product, big.NewInt(int64(b)))
	if !share.IsInt64() {
		return impl.MaxInt
	}
	return int(share.Int64())
}

func TestShareIsExact(t *testing.T) {
	l := edgeInts()
	for _, n := range l {
		for _, a := range l {
			for _, b := range l {
				if got, want := impl.Share(n, a, b), wantShare(n, a, b); got != want {
					t.Errorf("Share(%d, %d, %d) = %d, want %d", n, a, b, got, want)
				}
			}
		}
	}
	m := someNumbers(30000)
	for i := 0; i+2 < len(m); i++ {
		if got, want := impl.Share(m[i], m[i+1], m[i+2]), wantShare(m[i], m[i+1], m[i+2]); got != want {
			t.Errorf("Share(%d, %d, %d) = %d, want %d", m[i], m[i+1], m[i+2], got, want)
		}
	}
}

func TestNumText(t *testing.T) {
	for _, c := range []struct {
		n    int
		want string
	}{
		{0, "0"},
		{1, "1"},
		{9, "9"},
		{10, "10"},
		{99, "99"},
		{100, "100"},
		{120, "120"},
		{1000000007, "1000000007"},
		{impl.MaxNum - 1, "999999999999"},
		{impl.MaxNum, "1000000000000"},
		{impl.MaxNum + 1, ""},
		{impl.MaxInt, ""},
		{-1, ""},
		{-120, ""},
		{minInt, ""},
	} {
		if got := impl.NumText(c.n); got != c.want {
			t.Errorf("NumText(%d) = %q, want %q", c.n, got, c.want)
		}
	}
}

func TestTextNumReadsBackNumText(t *testing.T) {
	l := []int{0, 1, 9, 10, 11, 99, 100, impl.MaxTime, impl.MaxNum - 1, impl.MaxNum}
	for _, n := range append(l, someNumbers(3000)...) {
		got, ok := impl.TextNum(impl.NumText(n))
		if !ok || got != n {
			t.Errorf("TextNum(NumText(%d)) = %d, %v", n, got, ok)
		}
	}
}

func checkNoNumber(t *testing.T, s string) {
	t.Helper()
	if n, ok := impl.TextNum(s); ok || n != 0 {
		t.Errorf("TextNum(%.40q) of %d bytes = %d, %v, want 0, false", s, len(s), n, ok)
	}
}

func TestTextNumRefuses(t *testing.T) {
	for _, s := range []string{
		"",
		"00", "01", "012", "0120", "00000000000000000007", "01000000000000",
		"+0", "-0", "+1", "-1", "+12", "-12", "--1", "+", "-", "1-", "1+2",
		" ", " 1", "1 ", "1 2", "\t1", "1\n", "\r1", "\v1",
		"a", "1a", "a1", "1a2", "0x10", "0b1", "0o7", "1e3", "1.0", "1.", ".1", "1,000", "1_000", "_1", "1_",
		"/", ":", "1/", "1:", "\x00", "1\x00", "\x001", "\xb1", "1\xff", "\u0661", "\u00b2", "1\u0660", "\uff11",
		"1000000000001", "1000000000010", "2000000000000", "9999999999999", "10000000000000",
		"9223372036854775807", "9223372036854775808", "18446744073709551615", "18446744073709551616", "18446744073709551617", "18446744073709551736",
		"-9223372036854775808", "-9223372036854775809",
	} {
		checkNoNumber(t, s)
	}
	for _, digit := range []string{"0", "1", "9"} {
		for _, count := range []int{14, 15, 19, 20, 21, 40, 1000, 1000000} {
			checkNoNumber(t, strings.Repeat(digit, count))
		}
	}
	checkNoNumber(t, strings.Repeat("0", 100000)+"1")
	checkNoNumber(t, "1"+strings.Repeat("0", 100000))
}

func TestTextNumOfOneAndTwoBytes(t *testing.T) {
	isDigit := func(b int) bool { return b >= '0' && b <= '9' }
	for a := range 256 {
		n, ok := impl.TextNum(string([]byte{byte(a)}))
		if ok != isDigit(a) || ok && n != a-'0' || !ok && n != 0 {
			t.Errorf("TextNum of the byte %d = %d, %v", a, n, ok)
		}
		for b := range 256 {
			n, ok := impl.TextNum(string([]byte{byte(a), byte(b)}))
			want := isDigit(a) && isDigit(b) && a != '0'
			if ok != want || ok && n != 10*(a-'0')+b-'0' || !ok && n != 0 {
				t.Errorf("TextNum of the bytes %d, %d = %d, %v", a, b, n, ok)
			}
		}
	}
}

func TestCut(t *testing.T) {
	for _, c := range []struct {
		s    string
		by   byte
		want []string
	}{
		{"", '=', []string{""}},
		{"", 0, []string{""}},
		{"abc", '=', []string{"abc"}},
		{"=", '=', []string{"", ""}},
		{"==", '=', []string{"", "", ""}},
		{"===", '=', []string{"", "", "", ""}},
		{"=ab", '=', []string{"", "ab"}},
		{"a=b", '=', []string{"a", "b"}},
		{"ab=", '=', []string{"ab", ""}},
		{"a==b", '=', []string{"a", "", "b"}},
		{"==ab", '=', []string{"", "", "ab"}},
		{"ab==", '=', []string{"ab", "", ""}},
		{"=a=b=", '=', []string{"", "a", "b", ""}},
		{"a b  c", ' ', []string{"a", "b", "", "c"}},
		{"a\nb\n", '\n', []string{"a", "b", ""}},
		{"a\x00b", 0, []string{"a", "b"}},
		// a byte, not a rune: neither the UTF-8 of U+00E9 nor one that is right is looked for
		{"a\xe9b", 0xe9, []string{"a", "b"}},
		{"\u00e9", 0xe9, []string{"\u00e9"}},
		{"\u00e9", 0xc3, []string{"", "\xa9"}},
		{"\xff\xff", 0xff, []string{"", "", ""}},
		{"a\x80\xffb", 0x80, []string{"a", "\xffb"}},
	} {
		if got := impl.Cut(c.s, c.by); !slices.Equal(got, c.want) {
			t.Errorf("Cut(%q, %d) = %q, want %q", c.s, c.by, got, c.want)
		}
	}
}

func TestCutAtEveryPlaceAndByEveryByte(t *testing.T) {
	for by := range 256 {
		other := strings.Repeat(string([]byte{byte(by + 1)}), 3) + string([]byte{byte(by + 255)})
		for place := range len(other) + 1 {
			s := other[:place] + string([]byte{byte(by)}) + other[place:]
			want := []string{other[:place], other[place:]}
			if got := impl.Cut(s, byte(by)); !slices.Equal(got, want) {
				t.Errorf("Cut(%q, %d) = %q, want %q", s, by, got, want)
			}
		}
	}
}

// textsOf are all texts of up to so many of these letters.
func textsOf(letters string, most int) []string {
	all := []string{""}
	last := all
	for range most {
		var next []string
		for _, s := range last {
			for i := range len(letters) {
				next = append(next, s+letters[i:i+1])
			}
		}
		all = append(all, next...)
		last = next
	}
	return all
}

func TestCutOfAllShortTexts(t *testing.T) {
	for _, s := range textsOf("=a;", 6) {
		got := impl.Cut(s, '=')
		if len(got) != strings.Count(s, "=")+1 || strings.Join(got, "=") != s || strings.Contains(strings.Join(got, ""), "=") {
			t.Errorf("Cut(%q, '=') = %q", s, got)
		}
	}
}

func TestLines(t *testing.T) {
	for _, c := range []struct {
		s    string
		want []string
	}{
		{"", nil},
		{"\n", []string{""}},
		{"\n\n", []string{"", ""}},
		{"a", []string{"a"}},
		{"a\n", []string{"a"}},
		{"\na", []string{"", "a"}},
		{"\na\n", []string{"", "a"}},
		{"a\nb", []string{"a", "b"}},
		{"a\nb\n", []string{"a", "b"}},
		{"a\n\nb", []string{"a", "", "b"}},
		{"a\n\n", []string{"a", ""}},
		{" ", []string{" "}},
		{"a\n ", []string{"a", " "}},
		{"a\r\nb", []string{"a\r", "b"}},
		{"\r", []string{"\r"}},
		{"a\x00\v\f\u0085\u2028b", []string{"a\x00\v\f\u0085\u2028b"}},
		{"\xff\n\xfe", []string{"\xff", "\xfe"}},
	} {
		if got := impl.Lines(c.s); !slices.Equal(got, c.want) {
			t.Errorf("Lines(%q) = %q, want %q", c.s, got, c.want)
		}
	}
}

func TestLinesOfAllShortTexts(t *testing.T) {
	for _, s := range textsOf("\na\r", 6) {
		var want []string
		line := ""
		for i := range len(s) {
			if s[i] == '\n' {
				want = append(want, line)
				line = ""
			} else {
				line += s[i : i+1]
			}
		}
		if line != "" {
			want = append(want, line)
		}
		if got := impl.Lines(s); !slices.Equal(got, want) {
			t.Errorf("Lines(%q) = %q, want %q", s, got, want)
		}
	}
}

func TestListsAreNewMemory(t *testing.T) {
	cut := func(s string) []string { return impl.Cut(s, '\n') }
	for name, f := range map[string]func(string) []string{"Cut": cut, "Lines": impl.Lines} {
		const text = "a\nb\n\nc"
		first, second := f(text), f(text)
		for i := range first {
			first[i] = "changed"
		}
		_ = append(first, "more")
		if !slices.Equal(second, []string{"a", "b", "", "c"}) || !slices.Equal(f(text), second) {
			t.Errorf("%s: an answer shares memory with another one", name)
		}
	}
}

// A piece that shared its text's bytes would change with them.
func TestPartsShareNothingWithTheText(t *testing.T) {
	cut := func(s string) []string { return impl.Cut(s, '\n') }
	for name, f := range map[string]func(string) []string{"Cut": cut, "Lines": impl.Lines} {
		bytes := []byte("ab\ncd\nef")
		parts := f(unsafe.String(&bytes[0], len(bytes)))
		for i := range bytes {
			bytes[i] = 'x'
		}
		if !slices.Equal(parts, []string{"ab", "cd", "ef"}) {
			t.Errorf("%s: its parts share memory with the text: %q", name, parts)
		}
	}
}
