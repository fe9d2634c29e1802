package tests

import (
	"encoding/binary"
	"math"
	"net/netip"
	"strings"
	"testing"

	"loop.example/g00504/impl"
)

// farInts are the numbers at which a sum or a shift of an int goes wrong.
var farInts = []int{
	math.MinInt, math.MinInt + 1, math.MinInt / 2, math.MinInt32, -65, -64, -63, -8, -7, -6, -2, -1,
	0, 1, 2, 5, 6, 7, 8, 61, 62, 63, 64, 65, 255, 256, 65535, 65536, math.MaxInt32, math.MaxUint32, math.MaxUint32 + 1,
	1<<48 - 1, 1 << 48, 1<<56 - 1, 1<<61 - 1, 1 << 61, 1<<62 - 1, 1 << 62, math.MaxInt - 6, math.MaxInt - 1, math.MaxInt,
}

// wideBytes returns the size lowest bytes of n as encoding/binary writes them.
func wideBytes(n, size int) string {
	return string(binary.BigEndian.AppendUint64(nil, uint64(n))[8-size:])
}

func checkWord(t *testing.T, n, size int) {
	t.Helper()
	s := impl.PutWord(n, size)
	if s != wideBytes(n, size) {
		t.Errorf("PutWord(%d, %d) = %q, want %q", n, size, s, wideBytes(n, size))
	}
	if got, ok := impl.GetWord(s, 0, size); got != n || !ok {
		t.Errorf("GetWord(PutWord(%d, %d)) = %d, %v", n, size, got, ok)
	}
}

func checkNoWord(t *testing.T, s string, at, size int) {
	t.Helper()
	if n, ok := impl.GetWord(s, at, size); n != 0 || ok {
		t.Errorf("GetWord(%q, %d, %d) = %d, %v, want 0, false", s, at, size, n, ok)
	}
}

func TestWordOkEdges(t *testing.T) {
	for bits := 1; bits <= 62; bits++ {
		top := 1<<bits - 1
		for _, n := range []int{0, 1, top - 1, top} {
			if !impl.WordOk(n, bits) {
				t.Errorf("WordOk(%d, %d) is false", n, bits)
			}
		}
		for _, n := range []int{-1, -2, -top, -top - 1, top + 1, 2 * (top + 1), math.MaxInt, math.MinInt} {
			if impl.WordOk(n, bits) {
				t.Errorf("WordOk(%d, %d) is true", n, bits)
			}
		}
	}
}

func TestWordOkRejectsBits(t *testing.T) {
	for _, bits := range append([]int{-3, 66, 100, 127, 128, 256 + 8}, farInts...) {
		if bits >= 1 && bits <= 62 {
			continue
		}
		for _, n := range farInts {
			if impl.WordOk(n, bits) {
				t.Errorf("WordOk(%d, %d) is true", n, bits)
			}
		}
	}
}

func TestPutWord(t *testing.T) {
	for _, c := range []struct {
		n, size int
		want    string
	}{
		{0, 1, "\x00"}, {255, 1, "\xff"}, {128, 1, "\x80"}, {258, 2, "\x01\x02"}, {65535, 2, "\xff\xff"}, {0, 3, "\x00\x00\x00"},
		{0x010203, 3, "\x01\x02\x03"}, {2147483648, 4, "\x80\x00\x00\x00"}, {4294967295, 4, "\xff\xff\xff\xff"},
		{4294967296, 5, "\x01\x00\x00\x00\x00"}, {0, 6, "\x00\x00\x00\x00\x00\x00"}, {1, 6, "\x00\x00\x00\x00\x00\x01"},
		{0x010203040506, 6, "\x01\x02\x03\x04\x05\x06"}, {1 << 40, 6, "\x01\x00\x00\x00\x00\x00"},
		{1 << 47, 6, "\x80\x00\x00\x00\x00\x00"}, {281474976710655, 6, "\xff\xff\xff\xff\xff\xff"},
		{256, 1, ""}, {-1, 1, ""}, {65536, 2, ""}, {16777216, 3, ""}, {4294967296, 4, ""}, {1 << 40, 5, ""},
		{281474976710656, 6, ""}, {-1, 6, ""}, {math.MinInt, 6, ""}, {math.MaxInt, 6, ""},
		{0, 0, ""}, {1, 0, ""}, {-1, 0, ""}, {0, 7, ""}, {1, 7, ""}, {0, 8, ""}, {0, -1, ""}, {1, -6, ""},
	} {
		if got := impl.PutWord(c.n, c.size); got != c.want {
			t.Errorf("PutWord(%d, %d) = %q, want %q", c.n, c.size, got, c.want)
		}
	}
}

func TestWordsRoundTrip(t *testing.T) {
	for size := 1; size <= 6; size++ {
		top := 1<<(8*size) - 1
		for n := range 256 {
			checkWord(t, n, size)
			checkWord(t, top-n, size)
		}
		for bit := range 8 * size {
			checkWord(t, 1<<bit, size)
			checkWord(t, top-1<<bit, size)
		}
		for _, n := range []int{-1, -256, -top, -top - 1, top + 1, top + 2, 2*top + 2, math.MinInt, math.MaxInt} {
			if got := impl.PutWord(n, size); got != "" {
				t.Errorf("PutWord(%d, %d) = %q, want \"\"", n, size, got)
			}
		}
	}
	for n := range 65536 {
		checkWord(t, n, 2)
	}
}

// What is read at an offset is written back as exactly the bytes there.
func TestGetWordReadsInPlace(t *testing.T) {
	for length := range 20 {
		s := someBytes(length, length)
		for size := 1; size <= 6; size++ {
			for at := -8; at <= length+8; at++ {
				if at < 0 || at+size > length {
					checkNoWord(t, s, at, size)
					continue
				}
				n, ok := impl.GetWord(s, at, size)
				if !ok || wideBytes(n, size) != s[at:at+size] || impl.PutWord(n, size) != s[at:at+size] {
					t.Errorf("GetWord(%q, %d, %d) = %d, %v", s, at, size, n, ok)
				}
			}
		}
	}
}

func TestGetWord(t *testing.T) {
	for _, c := range []struct {
		text           string
		at, size, want int
	}{
		{"\x00", 0, 1, 0}, {"\xff", 0, 1, 255}, {"x\x01\x02", 1, 2, 258}, {"\x01\x02x", 0, 2, 258},
		{"ab\x80\x00\x00\x00", 2, 4, 2147483648}, {"\xff\xff\xff\xff", 0, 4, 4294967295},
		{"\xff\xff\xff\xff\xff\xff", 0, 6, 281474976710655}, {"\x01\x02\x03\x04\x05\x06", 0, 6, 0x010203040506},
		{"z\x80\x00\x00\x00\x00\x01z", 1, 6, 1<<47 + 1}, {"\u00e9", 1, 1, 0xa9},
	} {
		if got, ok := impl.GetWord(c.text, c.at, c.size); got != c.want || !ok {
			t.Errorf("GetWord(%q, %d, %d) = %d, %v, want %d", c.text, c.at, c.size, got, ok, c.want)
		}
	}
}

func TestGetWordAtTheEnd(t *testing.T) {
	s := "\x01\x02\x03\x04\x05\x06\x07"
	for size := 1; size <= 6; size++ {
		if n, ok := impl.GetWord(s, len(s)-size, size); !ok || wideBytes(n, size) != s[len(s)-size:] {
			t.Errorf("GetWord of the last %d bytes = %d, %v", size, n, ok)
		}
		for _, at := range []int{-1, -size, len(s) - size + 1, len(s), len(s) + 1, 1000, math.MaxInt - size, math.MaxInt - size + 1, math.MaxInt, math.MinInt, math.MinInt + size} {
			checkNoWord(t, s, at, size)
		}
		checkNoWord(t, "", 0, size)
	}
	if n, ok := impl.GetWord(s, len(s)-1, 1); n != 7 || !ok {
		t.Errorf("GetWord one before the end = %d, %v", n, ok)
	}
	checkNoWord(t, s, len(s)-1, 2)
}

// No size but 1 to 6 has an encoding, not even an empty one.
func TestGetWordRejectsSizes(t *testing.T) {
	for _, s := range []string{"", "\x00", strings.Repeat("\x00", 6), strings.Repeat("\x01", 300)} {
		for _, size := range append([]int{-3, 9, 16, 300}, farInts...) {
			if size >= 1 && size <= 6 {
				continue
			}
			for _, at := range append([]int{len(s) - 1, len(s), len(s) + 1, len(s) - size}, farInts...) {
				checkNoWord(t, s, at, size)
			}
		}
	}
}

func TestAddressText(t *testing.T) {
	for _, c := range []struct {
		n    int
		want string
	}{
		{0, "0.0.0.0"}, {1, "0.0.0.1"}, {255, "0.0.0.255"}, {256, "0.0.1.0"}, {65536, "0.1.0.0"}, {16777216, "1.0.0.0"},
		{16909060, "1.2.3.4"}, {167772415, "10.0.0.255"}, {2130706433, "127.0.0.1"}, {2147483648, "128.0.0.0"},
		{3232235777, "192.168.1.1"}, {4294967294, "255.255.255.254"}, {4294967295, "255.255.255.255"},
	} {
		if got := impl.AddressText(c.n); got != c.want {
			t.Errorf("AddressText(%d) = %q, want %q", c.n, got, c.want)
		}
		if got, ok := impl.Address(c.want); got != c.n || !ok {
			t.Errorf("Address(%q) = %d, %v, want %d", c.want, got, ok, c.n)
		}
	}
	for _, n := range []int{-1, -256, 4294967296, 4294967297, 1 << 40, 1 << 62, math.MinInt, math.MinInt32, math.MaxInt} {
		if got := impl.AddressText(n); got != "" {
			t.Errorf("AddressText(%d) = %q, want \"\"", n, got)
		}
	}
}

func TestAddressesRoundTrip(t *testing.T) {
	check := func(n int) {
		t.Helper()
		text := impl.AddressText(n)
		want := netip.AddrFrom4([4]byte{byte(n >> 24), byte(n >> 16), byte(n >> 8), byte(n)}).String()
		if text != want {
			t.Errorf("AddressText(%d) = %q, want %q", n, text, want)
		}
		if got, ok := impl.Address(text); got != n || !ok {
			t.Errorf("Address(AddressText(%d)) = %d, %v", n, got, ok)
		}
	}
	for n := range 70000 {
		check(n)
		check(math.MaxUint32 - n)
	}
	for b := range 256 {
		for place := range 4 {
			check(b << (8 * place))
			check(math.MaxUint32 - b<<(8*place))
		}
	}
	for n := 0; n <= math.MaxUint32; n += 99991 {
		check(n)
	}
}

func TestAddressRejects(t *testing.T) {
	for _, s := range []string{
		"", ".", "..", "...", "....", "0", "1", "4294967295", "1.2", "1.2.3", "1.2.3.4.5", "1.2.3.4.5.6.7.8", "1.2.3.4.", ".1.2.3.4",
		"1.2.3.", ".2.3.4", "1..3.4", "1.2..4", "1..2.3.4", "01.2.3.4", "1.02.3.4", "1.2.003.4", "1.2.3.04", "00.0.0.0", "0.0.0.00",
		"-1.2.3.4", "+1.2.3.4", "1.2.3.-4", "1.2.3.+4", "-0.0.0.0", "0.0.0.-0", "256.0.0.0", "0.256.0.0", "0.0.256.0", "0.0.0.256",
		"255.255.255.256", "999.1.1.1", "1.1.1.1000", "0.0.0.4294967296", "0.0.0.999999999999", "0.0.0.1000000000000",
		"0.0.0.18446744073709551616", " 1.2.3.4", "1.2.3.4 ", "1. 2.3.4", "1.2.3.4\n", "1.2.3.4\x00", "1,2,3,4", "1.2.3,4", "1:2:3:4",
		"a.b.c.d", "1.2.3.a", "0x1.2.3.4", "1.2.3.4/32", "1.2.3.4:80", "::1", "::ffff:1.2.3.4", "1.2.3.\xb4", "\uff11.2.3.4", "1\u30022.3.4",
		strings.Repeat("1.", 5000), strings.Repeat(".", 5000), "1.2.3." + strings.Repeat("0", 5000),
	} {
		if n, ok := impl.Address(s); n != 0 || ok {
			t.Errorf("Address(%q) = %d, %v, want 0, false", s, n, ok)
		}
	}
}

// A part is valid in each place exactly from 0 to 255.
func TestAddressParts(t *testing.T) {
	for place := range 4 {
		for part := range 1100 {
			parts := []string{"7", "7", "7", "7"}
			parts[place] = impl.Digits(part)
			s := strings.Join(parts, ".")
			want, known := 0, part <= 255
			if known {
				want = 0x07070707 + (part-7)<<(8*(3-place))
			}
			if n, ok := impl.Address(s); n != want || ok != known {
				t.Errorf("Address(%q) = %d, %v, want %d, %v", s, n, ok, want, known)
			}
		}
	}
}

// A text is an address exactly if AddressText writes it.
func TestAddressOfShortTexts(t *testing.T) {
	found := 0
	for _, s := range append(words("025.", 9), words("16.-", 8)...) {
		want := 0
		addr, err := netip.ParseAddr(s)
		if err == nil {
			four := addr.As4()
			want = int(binary.BigEndian.Uint32(four[:]))
			found++
		}
		n, ok := impl.Address(s)
		if n != want || ok != (err == nil) || ok && impl.AddressText(n) != s {
			t.Errorf("Address(%q) = %d, %v, want %d, %v", s, n, ok, want, err == nil)
		}
	}
	if found == 0 {
		t.Error("no text was an address")
	}
}

// Every function returns, and returns the same again, whatever it is given.
func TestWordIsTotal(t *testing.T) {
	defer func() {
		if r := recover(); r != nil {
			t.Fatalf("panic: %v", r)
		}
	}()
	for _, a := range farInts {
		if s := impl.AddressText(a); s != impl.AddressText(a) || (s == "") != (a < 0 || a > math.MaxUint32) {
			t.Errorf("AddressText(%d) = %q", a, s)
		}
		for _, b := range farInts {
			s := impl.PutWord(a, b)
			if s != impl.PutWord(a, b) || s != "" && len(s) != b || (s != "") != (b >= 1 && b <= 6 && impl.WordOk(a, 8*b)) {
				t.Errorf("PutWord(%d, %d) = %q", a, b, s)
			}
			for _, text := range []string{"", "a", "abcdef", someBytes(300, 2)} {
				n, ok := impl.GetWord(text, a, b)
				if !ok && n != 0 || ok && impl.PutWord(n, b) != text[a:a+b] {
					t.Errorf("GetWord(%q, %d, %d) = %d, %v", text, a, b, n, ok)
				}
			}
		}
	}
	for i := range 2000 {
		s := someBytes(i%70, i)
		n, ok := impl.Address(s)
		if !ok && n != 0 || ok && impl.AddressText(n) != s {
			t.Errorf("Address(%q) = %d, %v", s, n, ok)
		}
	}
}

// Reading a part of a string leaves the bytes that it shares as they were.
func TestWordArgumentsUnchanged(t *testing.T) {
	whole := someBytes(40, 9)
	kept := strings.Clone(whole)
	for at := range 40 {
		for size := range 8 {
			impl.GetWord(whole[:30], at, size)
		}
	}
	address := "xx1.2.3.4yy"
	if n, ok := impl.Address(address[2:9]); n != 16909060 || !ok {
		t.Errorf("Address of a part = %d, %v", n, ok)
	}
	if whole != kept || address != "xx1.2.3.4yy" {
		t.Error("an argument was changed")
	}
}
