package tests

import (
	"math"
	"slices"
	"strconv"
	"strings"
	"testing"

	"loop.example/g00504/impl"
)

const largest = 999999999999

// someBytes returns n bytes of every value in an irregular, repeatable order.
func someBytes(n, seed int) string {
	out := make([]byte, n)
	x := uint32(seed)*2654435761 + 12345
	for i := range out {
		x = x*1664525 + 1013904223
		out[i] = byte(x >> 24)
	}
	return string(out)
}

// words returns every string over the letters with at most length bytes.
func words(letters string, length int) []string {
	all := []string{""}
	last := all
	for range length {
		var next []string
		for _, w := range last {
			for i := range len(letters) {
				next = append(next, w+letters[i:i+1])
			}
		}
		all = append(all, next...)
		last = next
	}
	return all
}

func TestDigits(t *testing.T) {
	for _, c := range []struct {
		n    int
		want string
	}{
		{0, "0"}, {7, "7"}, {10, "10"}, {105, "105"}, {-1, "-1"}, {-70, "-70"},
		{largest, "999999999999"}, {largest + 1, "1000000000000"}, {-largest, "-999999999999"},
		{math.MaxInt, "9223372036854775807"},
		{math.MinInt, "-9223372036854775808"}, {math.MinInt + 1, "-9223372036854775807"},
	} {
		if got := impl.Digits(c.n); got != c.want {
			t.Errorf("Digits(%d) = %q, want %q", c.n, got, c.want)
		}
	}
}

func TestNumberReadsDigits(t *testing.T) {
	check := func(n int) {
		t.Helper()
		if got, ok := impl.Number(impl.Digits(n)); got != n || !ok {
			t.Errorf("Number(Digits(%d)) = %d, %v", n, got, ok)
		}
	}
	for n := range 20000 {
		check(n)
		check(largest - n)
	}
	for power := 1; power <= largest; power *= 10 {
		check(power - 1)
		check(power)
		check(power + 1)
	}
	for n := 1; n <= largest; n = n*3 + 1 {
		check(n)
	}
}

func TestNumberRejects(t *testing.T) {
	for _, s := range []string{
		"", " ", "-", "+", "-0", "+0", "-1", "+1", "00", "01", "007", "000000000001", "0999999999999",
		"1000000000000", "1000000000001", "9999999999999", "9223372036854775807", "9223372036854775808",
		"18446744073709551616", "18446744073709551617", "340282366920938463463374607431768211457",
		" 1", "1 ", "1\n", "\t1", "1\x00", "\x001", "1_000", "1,000", "1.0", "1e3", "0x10", "0b1", "ff", "12a", "a12",
		"1/", "1:", "/", ":", "\xb1", "\xff", "1\x80", "\u0661", "\uff11", strings.Repeat("1", 5000), strings.Repeat("0", 5000),
		impl.Digits(math.MinInt), impl.Digits(math.MaxInt), impl.Digits(-largest),
	} {
		if n, ok := impl.Number(s); n != 0 || ok {
			t.Errorf("Number(%q) = %d, %v, want 0, false", s, n, ok)
		}
	}
}

// A text is a number exactly if Digits writes it.
func TestNumberOfShortTexts(t *testing.T) {
	written := map[string]int{}
	for n := range 10000 {
		written[impl.Digits(n)] = n
	}
	for _, s := range words("0129+-/: a\x00\xff", 4) {
		want, known := written[s]
		if n, ok := impl.Number(s); n != want || ok != known {
			t.Errorf("Number(%q) = %d, %v, want %d, %v", s, n, ok, want, known)
		}
	}
}

func TestNumberOfEachByte(t *testing.T) {
	for b := range 256 {
		c := string([]byte{byte(b)})
		for _, s := range []string{c, "1" + c, c + "1", "12345678901" + c} {
			want, err := strconv.Atoi(s)
			known := err == nil && strconv.Itoa(want) == s && want >= 0
			if !known {
				want = 0
			}
			if n, ok := impl.Number(s); n != want || ok != known {
				t.Errorf("Number(%q) = %d, %v, want %d, %v", s, n, ok, want, known)
			}
		}
	}
}

// A rejected text leaves nothing behind for the next call.
func TestNumberAfterReject(t *testing.T) {
	for range 3 {
		if n, ok := impl.Number("12x"); n != 0 || ok {
			t.Errorf("Number of 12x = %d, %v", n, ok)
		}
		if n, ok := impl.Number("12"); n != 12 || !ok {
			t.Errorf("Number of 12 = %d, %v", n, ok)
		}
	}
}

func TestHex(t *testing.T) {
	for _, c := range []struct{ text, want string }{
		{"", ""}, {"\x00", "00"}, {"\x0f", "0f"}, {"\xf0", "f0"}, {"\xff", "ff"}, {"\x00\xfa", "00fa"},
		{"abc", "616263"}, {"\u00e9", "c3a9"}, {"\x80\xc3", "80c3"}, {"\xde\xad\xbe\xef", "deadbeef"},
	} {
		if got := impl.Hex(c.text); got != c.want {
			t.Errorf("Hex(%q) = %q, want %q", c.text, got, c.want)
		}
		if got, ok := impl.Unhex(c.want); got != c.text || !ok {
			t.Errorf("Unhex(%q) = %q, %v, want %q", c.want, got, ok, c.text)
		}
	}
}

func TestUnhexReadsHex(t *testing.T) {
	check := func(s string) {
		t.Helper()
		h := impl.Hex(s)
		if len(h) != 2*len(s) || h != strings.ToLower(h) {
			t.Errorf("Hex(%q) = %q", s, h)
		}
		if got, ok := impl.Unhex(h); got != s || !ok {
			t.Errorf("Unhex(Hex(%q)) = %q, %v", s, got, ok)
		}
	}
	for b := range 256 {
		check(string([]byte{byte(b)}))
		check(string([]byte{byte(b), byte(255 - b), byte(b)}))
	}
	for n := range 300 {
		check(someBytes(n, n))
	}
	check(someBytes(100000, 1))
}

// A pair is a byte exactly if both of its bytes are lower-case digits.
func TestUnhexOfEachPair(t *testing.T) {
	written := map[string]string{}
	for b := range 256 {
		c := string([]byte{byte(b)})
		written[impl.Hex(c)] = c
	}
	if len(written) != 256 {
		t.Errorf("Hex has %d encodings of 256 bytes", len(written))
	}
	for a := range 256 {
		for b := range 256 {
			s := string([]byte{byte(a), byte(b)})
			want, known := written[s]
			if got, ok := impl.Unhex(s); got != want || ok != known {
				t.Errorf("Unhex(%q) = %q, %v, want %q, %v", s, got, ok, want, known)
			}
		}
	}
}

func TestUnhexRejects(t *testing.T) {
	for _, s := range []string{
		"0", "f", "000", "00f", "fffff", "FF", "fF", "Ff", "00FA", "0A", "0g", "g0", "zz", "0x", "0x00", "00 ", " 00", "0 0",
		"00\n", "--", "-1", "+1", "00zz", "zz00", "00fag0", "\xff\xff", "\u00e9", "61\x00\x00", strings.Repeat("0", 4999),
		strings.Repeat("0", 4998) + "0G",
	} {
		if got, ok := impl.Unhex(s); got != "" || ok {
			t.Errorf("Unhex(%q) = %q, %v, want \"\", false", s, got, ok)
		}
	}
}

func TestParts(t *testing.T) {
	for _, c := range []struct {
		text string
		by   byte
		want []string
	}{
		{"", ',', []string{""}}, {"", 0, []string{""}}, {"", 255, []string{""}},
		{",", ',', []string{"", ""}}, {",,", ',', []string{"", "", ""}},
		{",a", ',', []string{"", "a"}}, {"a,", ',', []string{"a", ""}}, {"a,,b", ',', []string{"a", "", "b"}},
		{"a", ',', []string{"a"}}, {"one two three", ' ', []string{"one", "two", "three"}},
		{"1.2.3.4", '.', []string{"1", "2", "3", "4"}}, {"a\x00b", 0, []string{"a", "b"}},
		{"a\xffb\xff", 255, []string{"a", "b", ""}}, {"\xc2\x80", 0x80, []string{"\xc2", ""}},
		{"\u00e9", 0xa9, []string{"\xc3", ""}}, {"\u00e9", 0xe9, []string{"\u00e9"}},
	} {
		if got := impl.Parts(c.text, c.by); !slices.Equal(got, c.want) {
			t.Errorf("Parts(%q, %q) = %q, want %q", c.text, c.by, got, c.want)
		}
	}
}

func TestJoined(t *testing.T) {
	for _, c := range []struct {
		list []string
		by   string
		want string
	}{
		{nil, "", ""}, {nil, ",", ""}, {[]string{}, ",", ""}, {[]string{""}, ",", ""}, {[]string{"a"}, ",", "a"},
		{[]string{"a", "b"}, "-", "a-b"}, {[]string{"a", "b"}, "", "ab"}, {[]string{"", ""}, "-", "-"},
		{[]string{"", "a", ""}, ", ", ", a, "}, {[]string{"\xff", "\x00"}, "\x80", "\xff\x80\x00"},
		{[]string{"a", "b", "c"}, "--", "a--b--c"}, {[]string{"a"}, " and ", "a"}, {[]string{"a", "", "b"}, " and ", "a and  and b"},
	} {
		if got := impl.Joined(c.list, c.by); got != c.want {
			t.Errorf("Joined(%q, %q) = %q, want %q", c.list, c.by, got, c.want)
		}
	}
}

func TestJoinedReversesParts(t *testing.T) {
	check := func(s string, by byte) {
		t.Helper()
		sep := string([]byte{by})
		list := impl.Parts(s, by)
		if len(list) != strings.Count(s, sep)+1 {
			t.Errorf("Parts(%q, %q) has %d elements", s, by, len(list))
		}
		for _, x := range list {
			if strings.Contains(x, sep) {
				t.Errorf("Parts(%q, %q) has the element %q", s, by, x)
			}
		}
		if got := impl.Joined(list, sep); got != s {
			t.Errorf("Joined(Parts(%q, %q)) = %q", s, by, got)
		}
		if again := impl.Parts(impl.Joined(list, sep), by); !slices.Equal(again, list) {
			t.Errorf("Parts(Joined(%q)) = %q", list, again)
		}
	}
	for b := range 256 {
		check("", byte(b))
		check(string([]byte{byte(b)}), byte(b))
		check(string([]byte{byte(b), 'x', byte(b), byte(b), 0, 255}), byte(b))
		check(someBytes(2000, b), byte(b))
	}
	for _, s := range words("a,\xff", 5) {
		check(s, ',')
		check(s, 255)
	}
}

// Neither the elements of a list nor the unused capacity behind them change.
func TestNumArgumentsUnchanged(t *testing.T) {
	whole := []string{"a", "b", "kept", "kept too"}
	before := slices.Clone(whole)
	if got := impl.Joined(whole[:2], ","); got != "a,b" {
		t.Errorf("Joined = %q", got)
	}
	if !slices.Equal(whole, before) {
		t.Errorf("Joined changed its list to %q", whole)
	}
}

func TestNumResultsAreNew(t *testing.T) {
	first := impl.Parts("a,b", ',')
	second := impl.Parts("a,b", ',')
	first[0] = "changed"
	_ = append(first[:1], "changed")
	if !slices.Equal(second, []string{"a", "b"}) || !slices.Equal(impl.Parts("a,b", ','), second) {
		t.Errorf("results of Parts share memory: %q", second)
	}
	empty := impl.Parts("", ',')
	empty[0] = "changed"
	if got := impl.Parts("", ','); !slices.Equal(got, []string{""}) {
		t.Errorf("Parts of the empty string = %q", got)
	}
}

// Every function returns, and returns the same again, whatever it is given.
func TestNumIsTotal(t *testing.T) {
	defer func() {
		if r := recover(); r != nil {
			t.Fatalf("panic: %v", r)
		}
	}()
	for i := range 2000 {
		s := someBytes(i%70, i)
		if i%3 == 0 {
			s = strings.Repeat("9", i)
		}
		n, ok := impl.Number(s)
		if !ok && n != 0 || ok && impl.Digits(n) != s {
			t.Errorf("Number(%q) = %d, %v", s, n, ok)
		}
		text, good := impl.Unhex(s)
		if !good && text != "" || good && impl.Hex(text) != s {
			t.Errorf("Unhex(%q) = %q, %v", s, text, good)
		}
		if m, again := impl.Number(s); m != n || again != ok {
			t.Errorf("Number(%q) differs when repeated", s)
		}
		if impl.Hex(s) != impl.Hex(s) || !slices.Equal(impl.Parts(s, s0(s)), impl.Parts(s, s0(s))) {
			t.Errorf("texts of %q differ when repeated", s)
		}
	}
}

// s0 returns the first byte of s, or 0 if there is none.
func s0(s string) byte {
	if s == "" {
		return 0
	}
	return s[0]
}
