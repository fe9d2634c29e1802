package tests

import (
	"encoding/binary"
	"math"
	"strings"
	"testing"

	"loop.example/g00504/impl"
)

// farSums are the numbers around the powers of 65536 and their multiples,
// where one fold more or less makes a difference.
func farSums() []int {
	list := append([]int{131069, 131070, 131071, 131072, 4294901759, 4294901760, 4294901761, 4294967295}, farInts...)
	for shift := 15; shift <= 62; shift++ {
		for d := -3; d <= 3; d++ {
			list = append(list, 1<<shift+d, 65535<<(shift-15)+d)
		}
	}
	return list
}

// remainder returns the folded value of n by division: folding keeps the
// remainder by 65535, and only 0 folds to 0.
func remainder(n int) int {
	if n <= 0 {
		return 0
	}
	return (n-1)%65535 + 1
}

// sumOfWords adds the words of s, padded to an even length, as
// encoding/binary reads them.
func sumOfWords(s string) int {
	padded := []byte(s + "\x00")
	sum := 0
	for len(padded) >= 2 {
		sum += int(binary.BigEndian.Uint16(padded))
		padded = padded[2:]
	}
	return sum
}

// sumTexts are texts of all short lengths, with bytes of one value and of many.
func sumTexts() []string {
	list := words("\x00\x01\xff", 6)
	for n := range 70 {
		list = append(list, someBytes(n, n), strings.Repeat("\x00", n), strings.Repeat("\xff", n), strings.Repeat("\x80", n))
	}
	for _, n := range []int{255, 256, 1499, 1500, 65534, 65535, 65536, 131074, 140001} {
		list = append(list, someBytes(n, n), strings.Repeat("\x00", n), strings.Repeat("\xff", n))
	}
	return list
}

func TestFolded(t *testing.T) {
	for _, c := range []struct{ n, want int }{
		{0, 0}, {1, 1}, {65534, 65534}, {65535, 65535}, {65536, 1}, {65537, 2}, {131069, 65534}, {131070, 65535}, {131071, 1}, {131072, 2},
		{0x2ddf0, 0xddf2}, {65535 * 65535, 65535}, {4294901759, 65534}, {4294901760, 65535}, {4294901761, 1}, {4294967294, 65534}, {4294967295, 65535}, {4294967296, 1},
		{65535<<16 + 1, 1}, {65535<<32 + 65535<<16 + 1, 1}, {1 << 48, 1}, {1<<48 - 1, 65535}, {1 << 62, 16384},
		{math.MaxInt, 32767}, {math.MaxInt - 1, 32766}, {math.MaxInt - 32767, 65535}, {math.MaxInt - 32766, 1},
		{-1, 0}, {-2, 0}, {-65535, 0}, {-65536, 0}, {-65537, 0}, {math.MinInt32, 0}, {math.MinInt + 1, 0}, {math.MinInt, 0},
	} {
		if got := impl.Folded(c.n); got != c.want {
			t.Errorf("Folded(%d) = %d, want %d", c.n, got, c.want)
		}
	}
}

func TestFoldedKeepsTheRemainder(t *testing.T) {
	check := func(n int) {
		t.Helper()
		if got := impl.Folded(n); got != remainder(n) {
			t.Errorf("Folded(%d) = %d, want %d", n, got, remainder(n))
		}
	}
	for n := range 300000 {
		check(n)
		check(-n)
		check(math.MaxInt - n)
		check(1<<32 - 150000 + n)
	}
	for _, n := range farSums() {
		check(n)
	}
	for n := 1; n < math.MaxInt/3; n += n/2 + 1 {
		check(n)
		check(-n)
	}
}

// Folded is as its definition says: of a larger number, Folded of its halves.
func TestFoldedOfHalves(t *testing.T) {
	for _, n := range farSums() {
		if n < 65536 {
			continue
		}
		if once := n/65536 + n%65536; impl.Folded(n) != impl.Folded(once) {
			t.Errorf("Folded(%d) = %d, Folded(%d) = %d", n, impl.Folded(n), once, impl.Folded(once))
		}
	}
}

func TestWordSum(t *testing.T) {
	for _, c := range []struct {
		text string
		want int
	}{
		{"", 0}, {"\x00", 0}, {"\x01", 256}, {"\x80", 32768}, {"\xff", 65280}, {"\x00\x00", 0}, {"\x00\x01", 1}, {"\x01\x00", 256}, {"\x01\x02", 258},
		{"\xff\xff", 65535}, {"\x01\x02\x03", 258 + 768}, {"\x01\x02\x00", 258}, {"\x01\x02\x03\x04", 258 + 772}, {"\xff\xff\xff", 65535 + 65280},
		{"\xff\xff\xff\xff", 131070}, {"\xff\xff\x00\x01", 65536}, {"\x00\x01\xf2\x03\xf4\xf5\xf6\xf7", 0x2ddf0}, {"\u00e9", 0xc3a9}, {"\xff\xfe\xfd", 0xfffe + 0xfd00},
		{strings.Repeat("\xff", 2*65537), 65535 * 65537}, {strings.Repeat("\xff", 2*70000+1), 65535*70000 + 65280},
	} {
		if got := impl.WordSum(c.text); got != c.want {
			t.Errorf("WordSum of %d bytes = %d, want %d", len(c.text), got, c.want)
		}
	}
}

// Neither the sum nor the checksum of an odd text changes by its zero padding.
func TestWordSumOfTexts(t *testing.T) {
	for _, s := range sumTexts() {
		sum := impl.WordSum(s)
		if sum != sumOfWords(s) {
			t.Errorf("WordSum of %d bytes = %d, want %d", len(s), sum, sumOfWords(s))
		}
		if impl.SumOf(s) != 65535-remainder(sum) {
			t.Errorf("SumOf of %d bytes = %d, want %d", len(s), impl.SumOf(s), 65535-remainder(sum))
		}
		if len(s)%2 == 1 && (impl.WordSum(s+"\x00") != sum || impl.SumOf(s+"\x00") != impl.SumOf(s)) {
			t.Errorf("padding %d bytes changes the sum", len(s))
		}
	}
}

func TestWordSumPlaces(t *testing.T) {
	for b := range 256 {
		one := string([]byte{byte(b)})
		for at := range 9 {
			want := b
			if at%2 == 0 {
				want = 256 * b
			}
			if got := impl.WordSum(strings.Repeat("\x00", at) + one); got != want {
				t.Errorf("WordSum with the last byte %d at %d = %d, want %d", b, at, got, want)
			}
		}
	}
}

func TestSumOf(t *testing.T) {
	for _, c := range []struct {
		text string
		want int
	}{
		{"", 65535}, {"\x00", 65535}, {"\x00\x00", 65535}, {strings.Repeat("\x00", 1501), 65535}, {"\xff", 255}, {"\xff\xff", 0}, {"\xff\xff\xff", 255},
		{"\xff\xff\xff\xff", 0}, {strings.Repeat("\xff", 1500), 0}, {strings.Repeat("\xff", 1501), 255}, {"\x00\x01", 65534}, {"\x01", 65279},
		{"\xff\xff\x00\x01", 65534}, {"\xff\xfe\x00\x01", 0}, {"\xff\xff\xff\xff\x00\x01", 65534},
		{"\x00\x01\xf2\x03\xf4\xf5\xf6\xf7", 0x220d}, {"\x45\x00\x00\x73\x00\x00\x40\x00\x40\x11\xc0\xa8\x00\x01\xc0\xa8\x00\xc7", 0xb861},
		{strings.Repeat("\xff\xff", 65537) + "\x00\x01", 65534}, {strings.Repeat("\x80\x00", 131071), 32767},
	} {
		if got := impl.SumOf(c.text); got != c.want {
			t.Errorf("SumOf of %d bytes = %d, want %d", len(c.text), got, c.want)
		}
	}
}

func TestSumRight(t *testing.T) {
	for _, c := range []struct {
		text string
		want bool
	}{
		{"", false}, {"\x00", false}, {"\x00\x00", false}, {strings.Repeat("\x00", 1500), false}, {"\xff", false}, {"\xff\xff", true}, {"\xff\xff\xff", false},
		{strings.Repeat("\xff", 1500), true}, {strings.Repeat("\xff", 1501), false}, {strings.Repeat("\xff", 131076), true}, {"\xff\xff\x00", true},
		{"\xff\x00\x00\xff", true}, {"\xff\xfe\x00\x01", true}, {"\xff\xff\x00\x01", false}, {"\xff\xff\xff\xfe\x00\x01", true}, {"\xff\xfe", false}, {"\x00\xff\xff", true}, {"\x00\xff\xfe", false},
		{"\x45\x00\x00\x73\x00\x00\x40\x00\x40\x11\xb8\x61\xc0\xa8\x00\x01\xc0\xa8\x00\xc7", true},
		{"\x45\x00\x00\x73\x00\x00\x40\x00\x40\x11\xb8\x60\xc0\xa8\x00\x01\xc0\xa8\x00\xc7", false},
		{"\x45\x00\x00\x73\x00\x00\x40\x00\x40\x11\x61\xb8\xc0\xa8\x00\x01\xc0\xa8\x00\xc7", false},
	} {
		if got := impl.SumRight(c.text); got != c.want || got != (impl.SumOf(c.text) == 0) {
			t.Errorf("SumRight of %d bytes %.40q = %v, want %v", len(c.text), c.text, got, c.want)
		}
	}
}

// checkSealed checks that s with its checksum at an even offset is right.
func checkSealed(t *testing.T, s string, at int) string {
	t.Helper()
	sum := impl.PutWord(impl.SumOf(s), 2)
	sealed := s[:at] + sum + s[at:]
	if len(sum) != 2 || !impl.SumRight(sealed) {
		t.Errorf("%d bytes with their checksum %q at %d are not right", len(s), sum, at)
	}
	return sealed
}

func TestChecksumsVerify(t *testing.T) {
	for _, s := range sumTexts() {
		checkSealed(t, s, 0)
		checkSealed(t, s, len(s)/4*2)
		checkSealed(t, s, len(s)/2*2)
	}
	for n := range 65536 {
		checkSealed(t, impl.PutWord(n, 2), 2)
		checkSealed(t, impl.PutWord(n, 2)+"\xff\xff\x00\x01", 4)
	}
}

// The checksum is the only word that verifies, except that 65535 does as well
// where the checksum is 0: they are the same modulo 65535.
func TestOnlyTheChecksumVerifies(t *testing.T) {
	for _, s := range []string{"", "\x00\x00", "\xff\xff", "\x12\x34", "\x80\x00\x80\x00", someBytes(20, 4), strings.Repeat("\xff", 20)} {
		for n := range 65536 {
			want := n == impl.SumOf(s) || impl.SumOf(s) == 0 && n == 65535
			if got := impl.SumRight(s + impl.PutWord(n, 2)); got != want {
				t.Errorf("SumRight(%q with %d) = %v, want %v", s, n, got, want)
			}
		}
	}
}

func checkChanged(t *testing.T, sealed string) {
	t.Helper()
	changed := []byte(sealed)
	for at := range changed {
		old := changed[at]
		for d := 1; d <= 255; d++ {
			changed[at] = old + byte(d)
			if impl.SumRight(string(changed)) {
				t.Errorf("%d bytes %.40q are right with byte %d changed from %d to %d", len(sealed), sealed, at, old, changed[at])
			}
		}
		changed[at] = old
	}
	if string(changed) != sealed || !impl.SumRight(sealed) {
		t.Errorf("%.40q is not right", sealed)
	}
}

func TestChangedBytesAreDetected(t *testing.T) {
	for _, s := range []string{"", "\x00\x00", "\xff\xff", "\x00\xff", "\xff\x00", "\x00\x01", "\x01\x00", "\x80\x00", "\xff\xfe", "\x45\x00\x00\x73\x00\x00\x40\x00\x40\x11\xc0\xa8\x00\x01\xc0\xa8\x00\xc7"} {
		checkChanged(t, checkSealed(t, s, len(s)))
	}
	for n := 0; n <= 64; n += 2 {
		for _, s := range []string{someBytes(n, n), strings.Repeat("\x00", n), strings.Repeat("\xff", n)} {
			checkChanged(t, checkSealed(t, s, len(s)))
			checkChanged(t, checkSealed(t, s, n/4*2))
		}
	}
	checkChanged(t, checkSealed(t, someBytes(700, 3), 700))
}

func TestPseudoHead(t *testing.T) {
	const top, long = math.MaxUint32, math.MaxUint16
	for _, c := range []struct {
		src, dst, length int
		want             string
	}{
		{0, 0, 0, "\x00\x00\x00\x00\x00\x00\x00\x00\x00\x06\x00\x00"},
		{1, 2, 20, "\x00\x00\x00\x01\x00\x00\x00\x02\x00\x06\x00\x14"},
		{0x0a000001, 0xc0a80102, 0x1234, "\x0a\x00\x00\x01\xc0\xa8\x01\x02\x00\x06\x12\x34"},
		{top, top, long, "\xff\xff\xff\xff\xff\xff\xff\xff\x00\x06\xff\xff"},
		{top, 0, 0, "\xff\xff\xff\xff\x00\x00\x00\x00\x00\x06\x00\x00"},
		{0, top, 0, "\x00\x00\x00\x00\xff\xff\xff\xff\x00\x06\x00\x00"},
		{0, 0, long, "\x00\x00\x00\x00\x00\x00\x00\x00\x00\x06\xff\xff"},
		{top + 1, 2, 20, ""}, {1, top + 1, 20, ""}, {1, 2, long + 1, ""}, {top + 1, top + 1, long + 1, ""},
		{-1, 2, 20, ""}, {1, -1, 20, ""}, {1, 2, -1, ""}, {-1, -1, -1, ""},
		{math.MinInt, 2, 20, ""}, {1, math.MinInt, 20, ""}, {1, 2, math.MinInt, ""},
		{math.MaxInt, 2, 20, ""}, {1, math.MaxInt, 20, ""}, {1, 2, math.MaxInt, ""},
	} {
		if got := impl.PseudoHead(c.src, c.dst, c.length); got != c.want {
			t.Errorf("PseudoHead(%d, %d, %d) = %q, want %q", c.src, c.dst, c.length, got, c.want)
		}
	}
}

func TestPseudoHeadOfAllNumbers(t *testing.T) {
	list := append([]int{65534, 65537, math.MaxUint32 - 1, math.MaxUint32 + 2}, farInts...)
	for _, src := range list {
		for _, dst := range list {
			for _, length := range list {
				want := ""
				if src>>32 == 0 && dst>>32 == 0 && length>>16 == 0 {
					want = wideBytes(src, 4) + wideBytes(dst, 4) + "\x00\x06" + wideBytes(length, 2)
				}
				if got := impl.PseudoHead(src, dst, length); got != want {
					t.Errorf("PseudoHead(%d, %d, %d) = %q, want %q", src, dst, length, got, want)
				}
			}
		}
	}
}

// Every function returns, and returns the same again, whatever it is given.
func TestSumIsTotal(t *testing.T) {
	defer func() {
		if r := recover(); r != nil {
			t.Fatalf("panic: %v", r)
		}
	}()
	for _, n := range farSums() {
		if f := impl.Folded(n); f != impl.Folded(n) || !impl.WordOk(f, 16) {
			t.Errorf("Folded(%d) = %d", n, f)
		}
	}
	for i := range 2000 {
		s := someBytes(i%300, i)
		if sum := impl.SumOf(s); sum != impl.SumOf(s) || !impl.WordOk(sum, 16) || impl.WordSum(s) != impl.WordSum(s) || impl.SumRight(s) != (sum == 0) {
			t.Errorf("SumOf(%q) = %d", s, sum)
		}
	}
}

// Summing a part of a string reads and changes nothing outside of it.
func TestSumArgumentsUnchanged(t *testing.T) {
	whole := someBytes(60, 5)
	kept := strings.Clone(whole)
	for from := range 60 {
		for to := from; to <= 60; to++ {
			part := whole[from:to]
			if impl.WordSum(part) != impl.WordSum(strings.Clone(part)) || impl.SumRight(part) != (impl.SumOf(part) == 0) {
				t.Errorf("the sum of %q depends on what is beside it", part)
			}
		}
	}
	if whole != kept {
		t.Error("an argument was changed")
	}
}
