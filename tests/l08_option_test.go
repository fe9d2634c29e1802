package tests

import (
	"encoding/binary"
	"math"
	"slices"
	"strings"
	"testing"

	"loop.example/g00504/impl"
)

var (
	noOptions = impl.Options{Scale: -1}
	// allOptions has options of every kind, with another value in each byte.
	allOptions = impl.Options{Mss: 0x0f0e, Scale: 13, Sack: true, Stamp: true, Val: 0x12131415, Echo: 0x16171819}
)

// The numbers at both ends of the fields and of int, and some that have the
// lowest bytes of a number that fits.
var (
	mssFields   = []int{math.MinInt, -65536 + 1460, -2, -1, 0, 1, 2, 3, 255, 256, 257, 536, 1460, 32767, 32768, 65534, 65535, 65536, 65537, 65536 + 1460, 1 << 32, 1<<32 + 5, math.MaxInt - 1, math.MaxInt}
	scaleFields = []int{math.MinInt, math.MinInt + 5, -256, -241, -3, -2, -1, 0, 1, 2, 3, 7, 13, 14, 15, 16, 127, 128, 254, 255, 256, 256 + 7, 65536, 1 << 32, math.MaxInt - 1, math.MaxInt}
	stampFields = []int{math.MinInt, math.MinInt + 1, -mostIp, -1 << 32, -2, -1, 0, 1, 2, 255, 65535, 65536, 1<<31 - 1, 1 << 31, mostIp - 1, mostIp, mostIp + 1, mostIp + 2, 1 << 62, math.MaxInt - 1, math.MaxInt}
)

func validOptions(o impl.Options) bool {
	stamps := o.Val == 0 && o.Echo == 0
	if o.Stamp {
		stamps = isWord(o.Val, 32) && isWord(o.Echo, 32)
	}
	return stamps && isWord(o.Mss, 16) && (o.Scale == -1 || 0 <= o.Scale && o.Scale < 15)
}

// option returns the bytes of one option, with the length that it has.
func option(kind int, body string) string { return optionOf(kind, 2+len(body), body) }

// optionOf returns the bytes of one option, whose length may be another one.
func optionOf(kind, length int, body string) string {
	return string([]byte{byte(kind), byte(length)}) + body
}

func mssOption(n int) string   { return option(2, wideBytes(n, 2)) }
func scaleOption(n int) string { return option(3, wideBytes(n, 1)) }
func sackOption() string       { return option(4, "") }
func stampOption(val, echo int) string {
	return option(8, wideBytes(val, 4)+wideBytes(echo, 4))
}

// optionParts returns the options that o has, each as its bytes, in the order of
// their kinds.
func optionParts(o impl.Options) []string {
	var parts []string
	if o.Mss != 0 {
		parts = append(parts, mssOption(o.Mss))
	}
	if o.Scale != -1 {
		parts = append(parts, scaleOption(o.Scale))
	}
	if o.Sack {
		parts = append(parts, sackOption())
	}
	if o.Stamp {
		parts = append(parts, stampOption(o.Val, o.Echo))
	}
	return parts
}

// optionBytes returns the text of o, which is valid.
func optionBytes(o impl.Options) string {
	text := strings.Join(optionParts(o), "")
	return text + strings.Repeat("\x01", (len(text)+3)/4*4-len(text))
}

// optionsIn divides s into options by their kinds, of which the last of a kind
// with its own length remains. It returns false if s cannot be divided.
func optionsIn(s string) (map[byte]string, bool) {
	sizes, found := map[byte]int{2: 4, 3: 3, 4: 2, 8: 10}, map[byte]string{}
	for s != "" && s[0] != 0 {
		if s[0] == 1 {
			s = strings.TrimLeft(s, "\x01")
			continue
		}
		if len(s) == 1 {
			return nil, false
		}
		kind, size := s[0], int(s[1])
		if size == 0 || size == 1 || len(s) < size {
			return nil, false
		}
		if sizes[kind] == size {
			found[kind] = s[2:size]
		}
		s = s[size:]
	}
	return found, true
}

// optionsAt reads options as encoding/binary does.
func optionsAt(s string) (impl.Options, bool) {
	found, ok := optionsIn(s)
	if !ok {
		return noOptions, false
	}
	o := noOptions
	if body, is := found[2]; is {
		o.Mss = int(binary.BigEndian.Uint16([]byte(body)))
	}
	if body, is := found[3]; is {
		o.Scale = min(int(body[0]), 14)
	}
	_, o.Sack = found[4]
	if body, is := found[8]; is {
		o.Stamp = true
		o.Val = int(binary.BigEndian.Uint32([]byte(body[:4])))
		o.Echo = int(binary.BigEndian.Uint32([]byte(body[4:])))
	}
	return o, true
}

// checkOptions checks all that is asked of the text of options.
func checkOptions(t *testing.T, o impl.Options) {
	t.Helper()
	ok, want := validOptions(o), ""
	if ok {
		want = optionBytes(o)
	}
	if got := impl.OptionsOk(o); got != ok {
		t.Errorf("OptionsOk(%+v) = %v", o, got)
	}
	s := impl.OptionsText(o)
	if s != want {
		t.Errorf("OptionsText(%+v) = %q, want %q", o, s, want)
	}
	if len(s)%4 != 0 || len(s) > 20 {
		t.Errorf("OptionsText(%+v) has %d bytes", o, len(s))
	}
	if !ok {
		return
	}
	for _, behind := range []string{"", "\x00", "\x01", "\x00\x02", "\x01\x01\x05\x02"} {
		if got, read := impl.ReadOptions(s + behind); got != o || !read {
			t.Errorf("ReadOptions(OptionsText(%+v)) with %q behind it = %+v, %v", o, behind, got, read)
		}
	}
}

// checkOptionsRead checks all that is asked of reading a text.
func checkOptionsRead(t *testing.T, s string) {
	t.Helper()
	want, known := optionsAt(s)
	got, ok := impl.ReadOptions(s)
	if got != want || ok != known {
		t.Errorf("ReadOptions of %d bytes %.60q = %+v, %v, want %+v, %v", len(s), s, got, ok, want, known)
	}
	if !impl.OptionsOk(got) {
		t.Errorf("ReadOptions of %d bytes %.60q = %+v, which is not valid", len(s), s, got)
	}
	if again, read := impl.ReadOptions(impl.OptionsText(got)); got != again || !read {
		t.Errorf("ReadOptions of %d bytes %.60q = %+v, which is %+v, %v if it is read again", len(s), s, got, again, read)
	}
	if !ok && got != impl.NoOptions() {
		t.Errorf("ReadOptions of %d bytes %.60q = %+v with false", len(s), s, got)
	}
}

// checkOptionsAre checks that reading s returns o.
func checkOptionsAre(t *testing.T, s string, o impl.Options) {
	t.Helper()
	checkOptionsRead(t, s)
	if got, ok := impl.ReadOptions(s); got != o || !ok {
		t.Errorf("ReadOptions of %d bytes %.60q = %+v, %v, want %+v", len(s), s, got, ok, o)
	}
}

// checkNotOptions checks that s is not read.
func checkNotOptions(t *testing.T, s string) {
	t.Helper()
	checkOptionsRead(t, s)
	if got, ok := impl.ReadOptions(s); got != noOptions || ok {
		t.Errorf("ReadOptions of %d bytes %.60q = %+v, %v, want NoOptions and false", len(s), s, got, ok)
	}
}

// optionsOfFields calls visit with options of all fields, each of which has its
// own number.
func optionsOfFields(visit func(o impl.Options)) {
	for _, mss := range []int{-1, 0, 1, 1460, 65535, 65536} {
		for _, scale := range []int{-2, -1, 0, 7, 14, 15} {
			for _, val := range []int{-1, 0, 1, 0x01020304, mostIp, mostIp + 1} {
				for _, echo := range []int{-1, 0, 1, 0x0a0b0c0d, mostIp, mostIp + 1} {
					for flags := range 4 {
						visit(impl.Options{Mss: mss, Scale: scale, Sack: flags&1 != 0, Stamp: flags&2 != 0, Val: val, Echo: echo})
					}
				}
			}
		}
	}
}

// someOptions returns valid options in an irregular, repeatable order.
func someOptions(seed int) impl.Options {
	o := impl.Options{Mss: someInt(5*seed) & 65535, Scale: (someInt(5*seed+1)&65535)%16 - 1, Sack: seed&1 != 0, Stamp: seed&2 != 0}
	if seed&4 != 0 {
		o.Mss = 0
	}
	if o.Stamp {
		o.Val, o.Echo = someInt(5*seed+2)&mostIp, someInt(5*seed+3)&mostIp
	}
	return o
}

// strangeOptions returns options that are skipped.
func strangeOptions() []string {
	return []string{
		option(5, ""), option(5, "x"), option(5, "\x02\x04\x05\xb4"), option(9, "\x00"), option(255, strings.Repeat("\x00", 253)), option(255, strings.Repeat("\x02", 253)),
		option(2, ""), option(2, "\x05"), option(2, "\x05\xb4\x00"), option(3, ""), option(3, "\x07\x00"), option(4, "\x00"), option(8, ""), option(8, "\x01\x02\x03\x04"),
		option(8, "\x01\x02\x03\x04\x05\x06\x07"), option(8, "\x01\x02\x03\x04\x05\x06\x07\x08\x09"), option(2, strings.Repeat("\x01", 253)),
	}
}

// brokenOptions returns options that cannot be read if nothing is behind them.
func brokenOptions() []string {
	return []string{
		"\x02", "\x03", "\x04", "\x05", "\x08", "\xff", "\x02\x00", "\x02\x01", "\x03\x00", "\x04\x01", "\x08\x00", "\x08\x01", "\x05\x00", "\x05\x01", "\xff\x00", "\xff\x01",
		"\x02\x03", "\x02\x04", "\x02\x04\x05", "\x02\x05\x05\xb4", "\x03\x03", "\x03\x04\x07", "\x04\x03", "\x04\xff", "\x05\x03", "\x08\x0a", "\x08\x0a\x01\x02\x03\x04\x05\x06\x07",
		"\x08\x0b\x01\x02\x03\x04\x05\x06\x07\x08", "\xff\xff", "\xff\xff" + strings.Repeat("\x00", 252), "\x02\xff" + strings.Repeat("\x01", 252),
	}
}

func TestNoOptions(t *testing.T) {
	o := impl.NoOptions()
	if o.Mss != 0 || o.Scale != -1 || o.Sack || o.Stamp || o.Val != 0 || o.Echo != 0 {
		t.Errorf("NoOptions() = %+v", o)
	}
	checkOptions(t, o)
	if !impl.OptionsOk(o) || impl.OptionsText(o) != "" {
		t.Error("NoOptions is not valid or has a text")
	}
	o.Mss = 5
	if impl.NoOptions() != noOptions {
		t.Error("NoOptions changes")
	}
}

func TestOptionsOkOfMssAndScale(t *testing.T) {
	for _, base := range []impl.Options{noOptions, allOptions, {}, {Stamp: true}} {
		for n, want := range map[int]bool{
			math.MinInt: false, math.MinInt + 1: false, -65536: false, -65535: false, -2: false, -1: false, 0: true, 1: true, 2: true, 1460: true, 65534: true, 65535: true,
			65536: false, 65537: false, 4294967296: false, math.MaxInt - 1: false, math.MaxInt: false,
		} {
			o := base
			if o.Mss = n; impl.OptionsOk(o) != want {
				t.Errorf("OptionsOk(%+v) = %v", o, !want)
			}
			checkOptions(t, o)
		}
		for n, want := range map[int]bool{
			math.MinInt: false, math.MinInt + 1: false, -256: false, -255: false, -3: false, -2: false, -1: true, 0: true, 1: true, 2: true, 7: true, 13: true, 14: true,
			15: false, 16: false, 255: false, 256: false, 270: false, 4294967296: false, math.MaxInt - 1: false, math.MaxInt: false,
		} {
			o := base
			if o.Scale = n; impl.OptionsOk(o) != want {
				t.Errorf("OptionsOk(%+v) = %v", o, !want)
			}
			checkOptions(t, o)
		}
	}
}

func TestOptionsOkOfStamps(t *testing.T) {
	for _, base := range []impl.Options{noOptions, {}, {Mss: 1460, Scale: 7, Sack: true}} {
		for n, want := range map[int]bool{
			math.MinInt: false, math.MinInt + 1: false, -4294967296: false, -2: false, -1: false, 0: true, 1: true, 2: true, 65536: true, 2147483647: true, 2147483648: true,
			4294967294: true, 4294967295: true, 4294967296: false, 4294967297: false, math.MaxInt - 1: false, math.MaxInt: false,
		} {
			for _, other := range []int{0, 1, 4294967295} {
				for _, pair := range [][2]int{{n, other}, {other, n}} {
					o := base
					o.Val, o.Echo = pair[0], pair[1]
					if got := impl.OptionsOk(o); got != (n == 0 && other == 0) {
						t.Errorf("OptionsOk(%+v) = %v", o, got)
					}
					checkOptions(t, o)
					if o.Stamp = true; impl.OptionsOk(o) != want {
						t.Errorf("OptionsOk(%+v) = %v", o, !want)
					}
					checkOptions(t, o)
				}
			}
		}
	}
}

func TestOptionsText(t *testing.T) {
	for _, c := range []struct {
		o    impl.Options
		want string
	}{
		{impl.Options{Scale: -1}, ""}, {impl.Options{}, "\x03\x03\x00\x01"}, {impl.Options{Scale: 14}, "\x03\x03\x0e\x01"},
		{impl.Options{Mss: 1, Scale: -1}, "\x02\x04\x00\x01"}, {impl.Options{Mss: 65535, Scale: -1}, "\x02\x04\xff\xff"}, {impl.Options{Mss: 258}, "\x02\x04\x01\x02\x03\x03\x00\x01"},
		{impl.Options{Scale: -1, Sack: true}, "\x04\x02\x01\x01"}, {impl.Options{Scale: 1, Sack: true}, "\x03\x03\x01\x04\x02\x01\x01\x01"},
		{impl.Options{Mss: 1460, Scale: -1, Sack: true}, "\x02\x04\x05\xb4\x04\x02\x01\x01"},
		{impl.Options{Scale: -1, Stamp: true}, "\x08\x0a\x00\x00\x00\x00\x00\x00\x00\x00\x01\x01"},
		{impl.Options{Scale: -1, Stamp: true, Val: 0x01020304, Echo: 4294967295}, "\x08\x0a\x01\x02\x03\x04\xff\xff\xff\xff\x01\x01"},
		{impl.Options{Scale: -1, Sack: true, Stamp: true, Val: 1, Echo: 2}, "\x04\x02\x08\x0a\x00\x00\x00\x01\x00\x00\x00\x02"},
		{impl.Options{Scale: 2, Stamp: true, Val: 1, Echo: 2}, "\x03\x03\x02\x08\x0a\x00\x00\x00\x01\x00\x00\x00\x02\x01\x01\x01"},
		{allOptions, "\x02\x04\x0f\x0e\x03\x03\x0d\x04\x02\x08\x0a\x12\x13\x14\x15\x16\x17\x18\x19\x01"},
		{impl.Options{Mss: -1}, ""}, {impl.Options{Mss: 65536}, ""}, {impl.Options{Mss: 1460, Scale: -2}, ""}, {impl.Options{Mss: 1460, Scale: 15}, ""},
		{impl.Options{Mss: 1460, Val: 1}, ""}, {impl.Options{Mss: 1460, Echo: 1}, ""}, {impl.Options{Mss: 1460, Val: -1}, ""},
		{impl.Options{Stamp: true, Val: -1}, ""}, {impl.Options{Stamp: true, Echo: -1}, ""}, {impl.Options{Stamp: true, Val: 4294967296}, ""}, {impl.Options{Stamp: true, Echo: 4294967296}, ""},
	} {
		if got := impl.OptionsText(c.o); got != c.want {
			t.Errorf("OptionsText(%+v) = %q, want %q", c.o, got, c.want)
		}
	}
}

func TestOptionsRoundTrip(t *testing.T) {
	optionsOfFields(func(o impl.Options) { checkOptions(t, o) })
	for _, mss := range mssFields {
		for _, scale := range scaleFields {
			for _, o := range []impl.Options{{}, {Sack: true}, {Stamp: true, Val: 5, Echo: 6}, {Sack: true, Stamp: true, Val: mostIp}} {
				o.Mss, o.Scale = mss, scale
				checkOptions(t, o)
			}
		}
	}
	for _, val := range stampFields {
		for _, echo := range stampFields {
			for _, o := range []impl.Options{noOptions, {Stamp: true}, {Scale: -1, Stamp: true}, {Mss: 1460, Scale: 14, Sack: true, Stamp: true}} {
				o.Val, o.Echo = val, echo
				checkOptions(t, o)
			}
		}
	}
	for i := range 20000 {
		if !validOptions(someOptions(i)) {
			t.Fatalf("%+v is not valid", someOptions(i))
		}
		checkOptions(t, someOptions(i))
		checkOptions(t, impl.Options{Mss: someInt(5 * i), Scale: someInt(5*i+1) % 20, Sack: i&1 != 0, Stamp: i&2 != 0, Val: someInt(5*i + 2), Echo: someInt(5*i + 3)})
	}
}

func TestOptionsRoundTripOfEachMssAndScale(t *testing.T) {
	for mss := range 65536 {
		o := impl.Options{Mss: mss, Scale: mss%16 - 1, Sack: mss%3 == 0}
		got, ok := impl.ReadOptions(impl.OptionsText(o))
		if got != o || !ok {
			t.Errorf("ReadOptions(OptionsText(%+v)) = %+v, %v", o, got, ok)
		}
		checkOptionsAre(t, mssOption(mss), impl.Options{Mss: mss, Scale: -1})
	}
	for scale := -300; scale < 300; scale++ {
		checkOptions(t, impl.Options{Scale: scale})
	}
}

// Different options have different texts.
func TestOptionsTextsDiffer(t *testing.T) {
	texts := map[string]impl.Options{}
	optionsOfFields(func(o impl.Options) {
		if !impl.OptionsOk(o) {
			return
		}
		s := impl.OptionsText(o)
		if other, used := texts[s]; used && other != o {
			t.Errorf("%+v and %+v have the text %q", o, other, s)
		}
		texts[s] = o
	})
	if len(texts) != 4*4*2*(1+4*4) {
		t.Errorf("there are %d texts", len(texts))
	}
}

func TestReadOptions(t *testing.T) {
	for _, c := range []struct {
		text string
		want impl.Options
	}{
		{"", noOptions}, {"\x00", noOptions}, {"\x01", noOptions}, {"\x01\x00", noOptions}, {"\x00\x02", noOptions}, {"\x00\x02\x04\x05\xb4", noOptions}, {"\x00\x02\x00", noOptions},
		{"\x02\x04\x05\xb4", impl.Options{Mss: 1460, Scale: -1}}, {"\x02\x04\x00\x00", noOptions}, {"\x01\x01\x02\x04\xff\xff\x00\x02", impl.Options{Mss: 65535, Scale: -1}},
		{"\x03\x03\x00", impl.Options{}}, {"\x03\x03\x0d", impl.Options{Scale: 13}}, {"\x03\x03\x0e", impl.Options{Scale: 14}}, {"\x03\x03\x0f", impl.Options{Scale: 14}}, {"\x03\x03\xff", impl.Options{Scale: 14}},
		{"\x04\x02", impl.Options{Scale: -1, Sack: true}}, {"\x04\x03\x01", noOptions}, {"\x05\x02", noOptions}, {"\x05\x0a\x00\x00\x00\x01\x00\x00\x00\x01\x04\x02", impl.Options{Scale: -1, Sack: true}},
		{"\x08\x0a\x00\x00\x00\x00\x00\x00\x00\x00", impl.Options{Scale: -1, Stamp: true}}, {"\x08\x0a\xff\xff\xff\xff\x00\x00\x01\x02", impl.Options{Scale: -1, Stamp: true, Val: 4294967295, Echo: 258}},
		// A body may have the bytes of padding, of the end and of other options.
		{"\x08\x0a\x02\x04\x05\xb4\x00\x01\x03\x03", impl.Options{Scale: -1, Stamp: true, Val: 0x020405b4, Echo: 0x00010303}}, {"\x05\x06\x02\x04\x05\xb4", noOptions}, {"\x02\x04\x04\x02", impl.Options{Mss: 0x0402, Scale: -1}},
		// The usual order of other systems.
		{"\x02\x04\x05\xb4\x04\x02\x08\x0a\x00\x00\x00\x09\x00\x00\x00\x00\x01\x03\x03\x07", impl.Options{Mss: 1460, Scale: 7, Sack: true, Stamp: true, Val: 9}},
		{"\x01\x01\x08\x0a\x00\x00\x00\x09\x00\x00\x00\x0a", impl.Options{Scale: -1, Stamp: true, Val: 9, Echo: 10}},
		{"\x02\x04\x05\xb4\x02\x05\x01\x02\x03\x02\x02", impl.Options{Mss: 1460, Scale: -1}}, {"\x02\x04\x05\xb4\x02\x04\x00\x00", noOptions},
	} {
		if got, ok := impl.ReadOptions(c.text); got != c.want || !ok {
			t.Errorf("ReadOptions(%q) = %+v, %v, want %+v", c.text, got, ok, c.want)
		}
		checkOptionsRead(t, c.text)
	}
	for _, s := range []string{"\x02", "\x02\x00", "\x02\x01", "\x02\x04\x05", "\x03\x00\x00", "\x05\x03", "\x08\x0a\x00\x00\x00\x01\x00\x00\x00", "\x04\x02\x04", "\x01\x04", "\x04\x02\xff\x03", "\xff\xff"} {
		if got, ok := impl.ReadOptions(s); got != noOptions || ok {
			t.Errorf("ReadOptions(%q) = %+v, %v, want NoOptions and false", s, got, ok)
		}
	}
}

func TestReadOptionsOfPadding(t *testing.T) {
	for n := range 300 {
		padding := strings.Repeat("\x01", n)
		checkOptionsAre(t, padding, noOptions)
		checkOptionsAre(t, padding+"\x00", noOptions)
		checkOptionsAre(t, padding+optionBytes(allOptions), allOptions)
		checkOptionsAre(t, optionBytes(allOptions)+padding, allOptions)
		checkOptionsAre(t, strings.Join(optionParts(allOptions), padding), allOptions)
		checkNotOptions(t, padding+"\x02")
	}
}

// Nothing behind the byte 0 is read, whether it is right or wrong.
func TestReadOptionsEndAtZero(t *testing.T) {
	behind := append(strangeOptions(), brokenOptions()...)
	behind = append(behind, "", "\x00", "\x00\x00\x00", "\x01", optionBytes(allOptions), someBytes(100, 4), strings.Repeat("\xff", 1000), strings.Repeat("\x00", 1000))
	for _, s := range behind {
		checkOptionsAre(t, "\x00"+s, noOptions)
		checkOptionsAre(t, "\x01\x01\x00"+s, noOptions)
		checkOptionsAre(t, strings.Join(optionParts(allOptions), "")+"\x00"+s, allOptions)
		checkOptionsAre(t, optionBytes(allOptions)+"\x00"+s, allOptions)
		checkOptionsAre(t, mssOption(7)+scaleOption(3)+"\x00"+stampOption(1, 2)+s, impl.Options{Mss: 7, Scale: 3})
	}
	parts := optionParts(allOptions)
	for n := range parts {
		want, _ := optionsAt(strings.Join(parts[:n], ""))
		checkOptionsAre(t, strings.Join(parts[:n], "")+"\x00"+strings.Join(parts[n:], ""), want)
	}
	for c := range 256 {
		checkOptionsAre(t, "\x00"+string([]byte{byte(c)}), noOptions)
	}
}

// An option of each kind and length is read where the text ends with it, where
// the text is one byte shorter, and where other options are behind it.
func TestReadOptionsOfEachKindAndLength(t *testing.T) {
	known := map[[2]int]bool{{2, 4}: true, {3, 3}: true, {4, 2}: true, {8, 10}: true}
	for kind := 2; kind < 256; kind++ {
		for length := range 256 {
			for _, seed := range []int{kind, length} {
				full := optionOf(kind, length, someBytes(max(0, length-2), seed))
				if length < 2 {
					checkNotOptions(t, full)
					checkNotOptions(t, full+optionBytes(allOptions))
					checkNotOptions(t, optionBytes(allOptions)+full)
					continue
				}
				checkOptionsRead(t, full)
				for cut := 1; cut < min(length, 4); cut++ {
					checkNotOptions(t, full[:length-cut])
					checkNotOptions(t, optionBytes(allOptions)+full[:length-cut])
				}
				if known[[2]int{kind, length}] {
					continue
				}
				checkOptionsAre(t, full, noOptions)
				checkOptionsAre(t, full+optionBytes(allOptions), allOptions)
				checkOptionsAre(t, strings.Join(optionParts(allOptions), full)+full, allOptions)
				checkNotOptions(t, full+"\x05")
			}
		}
	}
}

// An option in a text of each length, up to beyond the end of the option.
func TestReadOptionsOfEachEnd(t *testing.T) {
	for _, kind := range []int{2, 3, 4, 5, 6, 7, 8, 9, 255} {
		for _, length := range []int{0, 1, 2, 3, 4, 5, 6, 7, 8, 9, 10, 11, 12, 255} {
			for size := range 260 {
				for _, fill := range []string{"\x00", "\x01", "\x02", "\x05", "\xff"} {
					s := optionOf(kind, length, strings.Repeat(fill, size))
					checkOptionsRead(t, s)
					if _, ok := impl.ReadOptions(s); ok && (length < 2 || length > len(s)) {
						t.Errorf("ReadOptions of the kind %d with the length %d in %d bytes is true", kind, length, len(s))
					}
					if length == len(s) {
						checkNotOptions(t, s[:1])
						checkNotOptions(t, s[:len(s)-1])
					}
				}
			}
		}
	}
}

func TestReadOptionsOfTheLastByte(t *testing.T) {
	for kind := range 256 {
		s := string([]byte{byte(kind)})
		for _, before := range []string{"", "\x01", optionBytes(allOptions), option(5, "abc")} {
			want, _ := optionsAt(before)
			if kind < 2 {
				checkOptionsAre(t, before+s, want)
			} else {
				checkNotOptions(t, before+s)
			}
		}
	}
}

func TestReadOptionsOfEachScale(t *testing.T) {
	for n := range 256 {
		want := n
		if n > 14 {
			want = 14
		}
		checkOptionsAre(t, scaleOption(n), impl.Options{Scale: want})
		checkOptionsAre(t, scaleOption(n)+"\x00", impl.Options{Scale: want})
		o := allOptions
		o.Scale = want
		checkOptionsAre(t, optionBytes(allOptions)+scaleOption(n), o)
		checkOptionsAre(t, scaleOption(n)+scaleOption(6), impl.Options{Scale: 6})
	}
}

func TestReadOptionsOfEachByte(t *testing.T) {
	s := optionBytes(allOptions)
	for at := range len(s) {
		for c := range 256 {
			text := replaced(s, at, string([]byte{byte(c)}))
			checkOptionsRead(t, text)
			for _, behind := range brokenOptions() {
				checkOptionsRead(t, text+behind)
			}
			for n := range len(text) {
				checkOptionsRead(t, text[:n])
			}
		}
	}
}

// The last option of a kind counts, in all of its fields.
func TestReadOptionsOfTwoOfAKind(t *testing.T) {
	for _, c := range []struct {
		text string
		want impl.Options
	}{
		{mssOption(1) + mssOption(2), impl.Options{Mss: 2, Scale: -1}}, {mssOption(65535) + mssOption(0), noOptions}, {mssOption(0) + mssOption(65535), impl.Options{Mss: 65535, Scale: -1}},
		{mssOption(0x0102) + mssOption(0x0200), impl.Options{Mss: 0x0200, Scale: -1}}, {mssOption(9) + mssOption(8) + mssOption(7), impl.Options{Mss: 7, Scale: -1}},
		{scaleOption(7) + scaleOption(2), impl.Options{Scale: 2}}, {scaleOption(255) + scaleOption(0), impl.Options{}}, {scaleOption(0) + scaleOption(255), impl.Options{Scale: 14}},
		{sackOption() + sackOption(), impl.Options{Scale: -1, Sack: true}},
		{stampOption(1, 2) + stampOption(3, 4), impl.Options{Scale: -1, Stamp: true, Val: 3, Echo: 4}}, {stampOption(mostIp, mostIp) + stampOption(0, 0), impl.Options{Scale: -1, Stamp: true}},
		{stampOption(5, 6) + stampOption(0, 7), impl.Options{Scale: -1, Stamp: true, Echo: 7}}, {stampOption(5, 6) + stampOption(7, 0), impl.Options{Scale: -1, Stamp: true, Val: 7}},
		// The last of another length is skipped: it does not count.
		{mssOption(5) + option(2, "\x09"), impl.Options{Mss: 5, Scale: -1}}, {scaleOption(5) + option(3, "\x01\x02"), impl.Options{Scale: 5}},
		{sackOption() + option(4, "\x00"), impl.Options{Scale: -1, Sack: true}}, {stampOption(5, 6) + option(8, "\x01\x02\x03\x04"), impl.Options{Scale: -1, Stamp: true, Val: 5, Echo: 6}},
	} {
		checkOptionsAre(t, c.text, c.want)
		checkOptionsAre(t, "\x01"+c.text+"\x01\x00", c.want)
	}
	for i := range 3000 {
		o, p := someOptions(i), someOptions(3*i+1)
		want := p
		if p.Mss == 0 {
			want.Mss = o.Mss
		}
		if p.Scale == -1 {
			want.Scale = o.Scale
		}
		want.Sack = o.Sack || p.Sack
		if !p.Stamp {
			want.Stamp, want.Val, want.Echo = o.Stamp, o.Val, o.Echo
		}
		checkOptionsAre(t, optionBytes(o)+optionBytes(p), want)
	}
}

// The order of different kinds does not matter, and neither does what is skipped
// between them.
func TestReadOptionsOfEachOrder(t *testing.T) {
	parts := optionParts(allOptions)
	skipped := append(strangeOptions(), "", "\x01", "\x01\x01\x01")
	count := 0
	for places := range 256 {
		order := []int{places & 3, places >> 2 & 3, places >> 4 & 3, places >> 6}
		sorted := slices.Clone(order)
		slices.Sort(sorted)
		if len(slices.Compact(sorted)) < 4 {
			continue
		}
		count++
		for _, between := range skipped {
			text := between
			for _, i := range order {
				text += parts[i] + between
			}
			checkOptionsAre(t, text, allOptions)
		}
	}
	if count != 24 {
		t.Errorf("there are %d orders", count)
	}
}

// An invalid option makes all options invalid, whatever is in front of it.
func TestReadOptionsOfABrokenEnd(t *testing.T) {
	fronts := append(strangeOptions(), "", "\x01", mssOption(1460), scaleOption(7), sackOption(), stampOption(1, 2), optionBytes(allOptions), strings.Join(optionParts(allOptions), ""))
	for _, front := range fronts {
		checkOptionsRead(t, front)
		for _, end := range brokenOptions() {
			checkNotOptions(t, front+end)
			checkNotOptions(t, front+front+"\x01"+end)
			checkOptionsRead(t, front+"\x00"+end)
			checkOptionsRead(t, end+front)
		}
	}
	for i := range 200 {
		s := strings.Join(optionParts(someOptions(i)), "")
		checkOptionsRead(t, s)
		for n := range len(s) {
			checkOptionsRead(t, s[:n])
		}
		for _, end := range brokenOptions() {
			checkNotOptions(t, s+end)
		}
	}
}

func TestReadOptionsOfShortTexts(t *testing.T) {
	for a := range 256 {
		checkOptionsRead(t, string([]byte{byte(a)}))
		for b := range 256 {
			checkOptionsRead(t, string([]byte{byte(a), byte(b)}))
		}
	}
	for _, s := range words("\x00\x01\x02\x03\x04\x05\x08\x0a\xff", 5) {
		checkOptionsRead(t, s)
	}
	for _, s := range words("\x01\x02\x03\x04", 8) {
		checkOptionsRead(t, s)
	}
}

func TestReadOptionsOfMixedTexts(t *testing.T) {
	pieces := append(strangeOptions(), "\x01", mssOption(1460), mssOption(0), scaleOption(0), scaleOption(15), sackOption(), stampOption(7, 8), stampOption(mostIp, 0))
	right, wrong := 0, 0
	for i := range 20000 {
		text := ""
		for j := range i % 12 {
			text += pieces[someInt(12*i+j)&65535%len(pieces)]
		}
		for _, s := range []string{text, text + someBytes(i%5, i), someBytes(i%3, i) + text} {
			checkOptionsRead(t, s)
			if _, ok := impl.ReadOptions(s); ok {
				right++
			} else {
				wrong++
			}
		}
	}
	if right < 20000 || wrong < 5000 {
		t.Errorf("%d texts are options and %d are not", right, wrong)
	}
}

func TestReadOptionsOfLongTexts(t *testing.T) {
	long := strings.Repeat(option(255, strings.Repeat("\x00", 253))+optionBytes(allOptions), 4000)
	checkOptionsAre(t, long, allOptions)
	checkOptionsAre(t, strings.Repeat("\x01", 1000000)+mssOption(5), impl.Options{Mss: 5, Scale: -1})
	checkOptionsAre(t, strings.Repeat(mssOption(6), 100000)+mssOption(5), impl.Options{Mss: 5, Scale: -1})
	checkOptionsAre(t, "\x00"+strings.Repeat("\x02", 1000000), noOptions)
	checkNotOptions(t, long+"\x02")
	checkNotOptions(t, strings.Repeat("\x01", 1000000)+"\x02\x01")
}

// Every function returns, and returns the same again, whatever it is given.
func TestOptionsAreTotal(t *testing.T) {
	defer func() {
		if r := recover(); r != nil {
			t.Fatalf("panic: %v", r)
		}
	}()
	for _, x := range farInts {
		for _, y := range farInts {
			for flags := range 4 {
				for _, o := range []impl.Options{{Mss: x, Scale: y, Val: x, Echo: y}, {Mss: 1460, Scale: 7, Val: x, Echo: y}, {Mss: x, Scale: y}, {Mss: x, Scale: 7, Val: y}, {Scale: x, Echo: y}} {
					o.Sack, o.Stamp = flags&1 != 0, flags&2 != 0
					if impl.OptionsOk(o) != impl.OptionsOk(o) || impl.OptionsText(o) != impl.OptionsText(o) {
						t.Errorf("%+v has different results", o)
					}
					checkOptions(t, o)
				}
			}
		}
	}
	for i := range 20000 {
		s := someBytes(i%60, i)
		o, ok := impl.ReadOptions(s)
		if again, same := impl.ReadOptions(s); o != again || ok != same {
			t.Errorf("ReadOptions(%q) = %+v, %v, and then %+v, %v", s, o, ok, again, same)
		}
		checkOptionsRead(t, s)
	}
}
