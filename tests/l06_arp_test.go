package tests

import (
	"encoding/binary"
	"math"
	"strings"
	"testing"

	"loop.example/g00504/impl"
)

const (
	arpStart = "\x00\x01\x08\x00\x06\x04"
	askBytes = arpStart + "\x00\x01"
	mostHw   = 281474976710655
	mostIp   = 4294967295
)

// arpFields are the numbers at both ends of the kinds, of the 32-bit and of the
// 48-bit words, and of int, and some that have the lowest bytes of such a word.
var arpFields = []int{
	math.MinInt, math.MinInt + 1, -1 << 48, -1 << 32, -2, -1, 0, 1, 2, 3, 4, 255, 256, 257, 258, 65535, 65536, 65537,
	1<<31 - 1, 1 << 31, mostIp - 1, mostIp, mostIp + 1, mostIp + 2, 1<<32 + 258, 1 << 40, 1 << 47,
	mostHw - 1, mostHw, mostHw + 1, mostHw + 2, 1<<49 - 1, 1<<56 - 1, 1 << 62, math.MaxInt - 1, math.MaxInt,
}

// arpPadding are texts behind a message.
func arpPadding() []string {
	list := []string{"\x00", "\xff", "a", "\x00\x00", askBytes, strings.Repeat("\x00", 18), strings.Repeat("\xff", 18), strings.Repeat("\x00", 1558), someBytes(100000, 3)}
	for n := range 40 {
		list = append(list, someBytes(n, n))
	}
	return list
}

func validArp(a impl.Arp) bool {
	kind := a.Kind == 1 || a.Kind == 2
	return kind && isWord(a.SrcHw, 48) && isWord(a.SrcIp, 32) && isWord(a.DstHw, 48) && isWord(a.DstIp, 32)
}

// arpBytes returns the fields of a, each in its number of bytes, whether it fits
// or not.
func arpBytes(a impl.Arp) string {
	return arpStart + wideBytes(a.Kind, 2) + wideBytes(a.SrcHw, 6) + wideBytes(a.SrcIp, 4) + wideBytes(a.DstHw, 6) + wideBytes(a.DstIp, 4)
}

// arpIn reads a message as encoding/binary does.
func arpIn(s string) (impl.Arp, bool) {
	if len(s) < 28 || !strings.HasPrefix(s, askBytes) && !strings.HasPrefix(s, arpStart+"\x00\x02") {
		return impl.Arp{}, false
	}
	hardware := func(at int) int { return int(binary.BigEndian.Uint64([]byte("\x00\x00" + s[at:at+6]))) }
	address := func(at int) int { return int(binary.BigEndian.Uint32([]byte(s[at : at+4]))) }
	return impl.Arp{Kind: int(s[7]), SrcHw: hardware(8), SrcIp: address(14), DstHw: hardware(18), DstIp: address(24)}, true
}

// arpReplyTo builds a reply field by field.
func arpReplyTo(a impl.Arp, mac int, ip int) (impl.Arp, bool) {
	fits := isWord(mac, 48) && isWord(ip, 32) && isWord(a.SrcHw, 48) && isWord(a.SrcIp, 32)
	if a.Kind != 1 || a.DstIp != ip || !fits {
		return impl.Arp{}, false
	}
	return impl.Arp{Kind: 2, SrcHw: mac, SrcIp: ip, DstHw: a.SrcHw, DstIp: a.SrcIp}, true
}

// arpsAt returns valid and invalid messages in which one field, and then two
// fields, have the numbers n and m.
func arpsAt(n, m int) []impl.Arp {
	base := impl.Arp{Kind: impl.ArAsk, SrcHw: 0x020000000001, SrcIp: 0x0a000001, DstHw: 0x020000000002, DstIp: 0x0a000002}
	put := []func(a *impl.Arp, n int){
		func(a *impl.Arp, n int) { a.Kind = n },
		func(a *impl.Arp, n int) { a.SrcHw = n },
		func(a *impl.Arp, n int) { a.SrcIp = n },
		func(a *impl.Arp, n int) { a.DstHw = n },
		func(a *impl.Arp, n int) { a.DstIp = n },
	}
	var list []impl.Arp
	for i := range put {
		for j := i; j < len(put); j++ {
			a := base
			put[j](&a, m)
			put[i](&a, n)
			b := a
			if i > 0 {
				b.Kind = impl.ArAnswer
			}
			list = append(list, a, b)
		}
	}
	return list
}

// checkArp checks all that is asked of the text of a message.
func checkArp(t *testing.T, a impl.Arp) {
	t.Helper()
	ok, want := validArp(a), ""
	if ok {
		want = arpBytes(a)
	}
	if got := impl.ArpOk(a); got != ok {
		t.Errorf("ArpOk(%+v) = %v", a, got)
	}
	s := impl.ArpText(a)
	if s != want {
		t.Errorf("ArpText(%+v) = %q, want %q", a, s, want)
	}
	if ok {
		for _, behind := range []string{"", "\x00", "\xff\xfe", s} {
			if got, read := impl.ReadArp(s + behind); got != a || !read {
				t.Errorf("ReadArp(ArpText(%+v)) with %q behind it = %+v, %v", a, behind, got, read)
			}
		}
	}
}

// checkArpRead checks all that is asked of reading a text.
func checkArpRead(t *testing.T, s string) {
	t.Helper()
	want, known := arpIn(s)
	got, ok := impl.ReadArp(s)
	if got != want || ok != known {
		t.Errorf("ReadArp(%q) = %+v, %v, want %+v, %v", s, got, ok, want, known)
	}
	if ok && (!impl.ArpOk(got) || impl.ArpText(got) != s[:28]) {
		t.Errorf("ArpText(ReadArp(%q)) = %q", s, impl.ArpText(got))
	}
}

// checkReply checks all that is asked of a reply.
func checkReply(t *testing.T, a impl.Arp, mac int, ip int) {
	t.Helper()
	want, known := arpReplyTo(a, mac, ip)
	got, ok := impl.ArpReply(a, mac, ip)
	if got != want || ok != known {
		t.Errorf("ArpReply(%+v, %d, %d) = %+v, %v, want %+v, %v", a, mac, ip, got, ok, want, known)
	}
}

func TestArpConstants(t *testing.T) {
	if impl.ArAsk != 1 || impl.ArAnswer != 2 {
		t.Error("a constant of ARP differs from the document")
	}
}

func TestArpOkOfEachField(t *testing.T) {
	for _, c := range []struct {
		n            int
		kind, hw, ip bool
	}{
		{math.MinInt, false, false, false}, {-1, false, false, false}, {0, false, true, true}, {1, true, true, true}, {2, true, true, true}, {3, false, true, true},
		{256, false, true, true}, {257, false, true, true}, {65535, false, true, true}, {65537, false, true, true},
		{4294967295, false, true, true}, {4294967296, false, true, false}, {4294967297, false, true, false},
		{281474976710655, false, true, false}, {281474976710656, false, false, false}, {281474976710657, false, false, false}, {math.MaxInt, false, false, false},
	} {
		for _, kind := range []int{impl.ArAsk, impl.ArAnswer} {
			for _, f := range []struct {
				a    impl.Arp
				want bool
			}{
				{impl.Arp{Kind: c.n, SrcHw: 5, SrcIp: 6, DstHw: 7, DstIp: 8}, c.kind},
				{impl.Arp{Kind: kind, SrcHw: c.n, SrcIp: 6, DstHw: 7, DstIp: 8}, c.hw},
				{impl.Arp{Kind: kind, SrcHw: 5, SrcIp: c.n, DstHw: 7, DstIp: 8}, c.ip},
				{impl.Arp{Kind: kind, SrcHw: 5, SrcIp: 6, DstHw: c.n, DstIp: 8}, c.hw},
				{impl.Arp{Kind: kind, SrcHw: 5, SrcIp: 6, DstHw: 7, DstIp: c.n}, c.ip},
			} {
				if got := impl.ArpOk(f.a); got != f.want {
					t.Errorf("ArpOk(%+v) = %v", f.a, got)
				}
				if text := impl.ArpText(f.a); (text != "") != f.want {
					t.Errorf("ArpText(%+v) = %q", f.a, text)
				}
			}
		}
	}
	if impl.ArpOk(impl.Arp{}) || !impl.ArpOk(impl.Arp{Kind: 1}) || !impl.ArpOk(impl.Arp{Kind: 2}) {
		t.Error("ArpOk of a message with zero fields")
	}
}

func TestArpText(t *testing.T) {
	const none6, none4 = "\x00\x00\x00\x00\x00\x00", "\x00\x00\x00\x00"
	const full6, full4 = "\xff\xff\xff\xff\xff\xff", "\xff\xff\xff\xff"
	for _, c := range []struct {
		a    impl.Arp
		want string
	}{
		{impl.Arp{Kind: 1}, askBytes + none6 + none4 + none6 + none4},
		{impl.Arp{Kind: 2, SrcHw: mostHw, SrcIp: mostIp, DstHw: mostHw, DstIp: mostIp}, arpStart + "\x00\x02" + full6 + full4 + full6 + full4},
		{impl.Arp{Kind: 2, SrcHw: mostHw, DstHw: mostHw}, arpStart + "\x00\x02" + full6 + none4 + full6 + none4},
		{impl.Arp{Kind: 1, SrcIp: mostIp, DstIp: mostIp}, askBytes + none6 + full4 + none6 + full4},
		{
			impl.Arp{Kind: 1, SrcHw: 0x010203040506, SrcIp: 0x0708090a, DstHw: 0x0b0c0d0e0f10, DstIp: 0x11121314},
			"\x00\x01\x08\x00\x06\x04\x00\x01\x01\x02\x03\x04\x05\x06\x07\x08\x09\x0a\x0b\x0c\x0d\x0e\x0f\x10\x11\x12\x13\x14",
		},
		{impl.Arp{}, ""}, {impl.Arp{Kind: 3}, ""}, {impl.Arp{Kind: -1}, ""}, {impl.Arp{Kind: 257}, ""}, {impl.Arp{Kind: 65537}, ""},
		{impl.Arp{Kind: 1, SrcHw: -1}, ""}, {impl.Arp{Kind: 1, SrcIp: -1}, ""}, {impl.Arp{Kind: 1, DstHw: -1}, ""}, {impl.Arp{Kind: 1, DstIp: -1}, ""},
		{impl.Arp{Kind: 2, SrcHw: mostHw + 1}, ""}, {impl.Arp{Kind: 2, SrcIp: mostIp + 1}, ""}, {impl.Arp{Kind: 2, DstHw: mostHw + 1}, ""}, {impl.Arp{Kind: 2, DstIp: mostIp + 1}, ""},
	} {
		if got := impl.ArpText(c.a); got != c.want {
			t.Errorf("ArpText(%+v) = %q, want %q", c.a, got, c.want)
		}
	}
}

func TestArpsRoundTrip(t *testing.T) {
	for _, n := range arpFields {
		for _, m := range arpFields {
			for _, a := range arpsAt(n, m) {
				checkArp(t, a)
			}
		}
	}
	for i := range 5000 {
		a := impl.Arp{Kind: i % 4, SrcHw: someInt(4 * i), SrcIp: someInt(4*i + 1), DstHw: someInt(4*i + 2), DstIp: someInt(4*i + 3)}
		checkArp(t, a)
		a.SrcHw, a.DstHw = a.SrcHw&mostHw, a.DstHw&mostHw
		a.SrcIp, a.DstIp = a.SrcIp&mostIp, a.DstIp&mostIp
		checkArp(t, a)
	}
}

func TestReadArp(t *testing.T) {
	const rest = "\x01\x02\x03\x04\x05\x06\x07\x08\x09\x0a\x0b\x0c\x0d\x0e\x0f\x10\x11\x12\x13\x14"
	full := strings.Repeat("\xff", 20)
	fields := impl.Arp{Kind: 1, SrcHw: 0x010203040506, SrcIp: 0x0708090a, DstHw: 0x0b0c0d0e0f10, DstIp: 0x11121314}
	for _, c := range []struct {
		text string
		want impl.Arp
	}{
		{askBytes + rest, fields}, {askBytes + rest + "\x00", fields}, {askBytes + rest + strings.Repeat("\x00", 18), fields},
		{askBytes + rest + "\x15", fields}, {askBytes + rest + askBytes + rest, fields}, {askBytes + rest + strings.Repeat("\xff", 100000), fields},
		{askBytes + strings.Repeat("\x00", 20), impl.Arp{Kind: 1}}, {askBytes + strings.Repeat("\x00", 38), impl.Arp{Kind: 1}},
		{arpStart + "\x00\x02" + full, impl.Arp{Kind: 2, SrcHw: mostHw, SrcIp: mostIp, DstHw: mostHw, DstIp: mostIp}},
		{arpStart + "\x00\x02" + full + "\xff", impl.Arp{Kind: 2, SrcHw: mostHw, SrcIp: mostIp, DstHw: mostHw, DstIp: mostIp}},
	} {
		if got, ok := impl.ReadArp(c.text); got != c.want || !ok {
			t.Errorf("ReadArp(%q) = %+v, %v, want %+v", c.text, got, ok, c.want)
		}
	}
	for _, s := range []string{
		"", "\x00", arpStart, askBytes, askBytes + rest[:19], askBytes[1:] + rest, "\x00" + askBytes + rest, askBytes[1:] + rest + "\x00",
		arpStart + rest, arpStart + rest + "\x00\x00", arpStart + "\x00\x00" + rest, arpStart + "\x00\x03" + rest, arpStart + "\x01\x00" + rest,
		arpStart + "\x01\x01" + rest, arpStart + "\x02\x00" + rest, arpStart + "\x80\x01" + rest, arpStart + "\xff\xff" + rest,
		"\x00\x06\x08\x00\x06\x04\x00\x01" + rest, "\x00\x01\x86\xdd\x06\x04\x00\x01" + rest, "\x00\x01\x08\x00\x08\x04\x00\x01" + rest,
		"\x00\x01\x08\x00\x06\x10\x00\x01" + rest, "\x01\x00\x00\x08\x04\x06\x00\x01" + rest,
		strings.Repeat("\x00", 28), strings.Repeat("\xff", 28), strings.Repeat("\x00", 46), strings.Repeat("\xff", 1600), arpStart + "\x00\x03" + rest + strings.Repeat("\x00", 18),
	} {
		if got, ok := impl.ReadArp(s); got != (impl.Arp{}) || ok {
			t.Errorf("ReadArp(%q) = %+v, %v, want the zero Arp and false", s, got, ok)
		}
	}
}

func TestReadArpOfEachLength(t *testing.T) {
	for n := range 120 {
		for kind := range 4 {
			for _, fill := range []string{strings.Repeat("\x00", n), strings.Repeat("\xff", n), someBytes(n, n)} {
				s := (arpStart + wideBytes(kind, 2) + fill)[:n]
				checkArpRead(t, s)
				if _, ok := impl.ReadArp(s); ok != (n >= 28 && (kind == 1 || kind == 2)) {
					t.Errorf("ReadArp of %d bytes of kind %d returns %v", n, kind, ok)
				}
				checkArpRead(t, fill)
			}
		}
	}
}

func TestReadArpOfEachKind(t *testing.T) {
	for kind := range 65536 {
		s := arpStart + wideBytes(kind, 2) + someBytes(20, kind)
		checkArpRead(t, s)
		checkArpRead(t, s+strings.Repeat("\x00", 18))
		if a, ok := impl.ReadArp(s); ok != (kind == 1 || kind == 2) || ok && a.Kind != kind {
			t.Errorf("ReadArp of kind %d = %+v, %v", kind, a, ok)
		}
	}
}

// Each of the first 28 bytes counts: a change of one of the first eight makes
// the text invalid, except for the other kind, and a change of another makes it
// another message.
func TestReadArpOfEachByte(t *testing.T) {
	for _, s := range []string{
		askBytes + someBytes(20, 1), askBytes + strings.Repeat("\x00", 20), arpStart + "\x00\x02" + strings.Repeat("\xff", 20),
		arpStart + "\x00\x02" + someBytes(38, 2), askBytes + strings.Repeat("\x00", 38),
	} {
		before, _ := impl.ReadArp(s)
		for at := range 28 {
			for c := range 256 {
				if byte(c) == s[at] {
					continue
				}
				changed := s[:at] + string([]byte{byte(c)}) + s[at+1:]
				checkArpRead(t, changed)
				a, ok := impl.ReadArp(changed)
				if valid := at > 7 || at == 7 && (c == 1 || c == 2); ok != valid || a == before {
					t.Errorf("ReadArp(%q) = %+v, %v", changed, a, ok)
				}
			}
		}
	}
}

func TestReadArpIgnoresFurtherBytes(t *testing.T) {
	for i := range 30 {
		s := arpStart + wideBytes(1+i%2, 2) + someBytes(20, i)
		want, ok := impl.ReadArp(s)
		if !ok {
			t.Errorf("ReadArp(%q) fails", s)
		}
		for _, behind := range arpPadding() {
			if got, ok := impl.ReadArp(s + behind); got != want || !ok {
				t.Errorf("ReadArp(%q) with %d bytes behind it = %+v, %v", s, len(behind), got, ok)
			}
			// Further bytes do not make a text valid either.
			if got, ok := impl.ReadArp("\x01" + s[1:] + behind); got != (impl.Arp{}) || ok {
				t.Errorf("an invalid text with %d bytes behind it is read as %+v, %v", len(behind), got, ok)
			}
		}
		for c := range 256 {
			for _, n := range []int{1, 18} {
				if got, ok := impl.ReadArp(s + strings.Repeat(string([]byte{byte(c)}), n)); got != want || !ok {
					t.Errorf("ReadArp(%q) with the byte %d behind it = %+v, %v", s, c, got, ok)
				}
			}
		}
	}
}

func TestArpReply(t *testing.T) {
	ask := impl.Arp{Kind: impl.ArAsk, SrcHw: 7, SrcIp: 1, DstHw: 3, DstIp: 258}
	with := func(put func(a *impl.Arp)) impl.Arp {
		a := ask
		put(&a)
		return a
	}
	none := impl.Arp{}
	usual := impl.Arp{Kind: impl.ArAnswer, SrcHw: 9, SrcIp: 258, DstHw: 7, DstIp: 1}
	for _, c := range []struct {
		a       impl.Arp
		mac, ip int
		want    impl.Arp
	}{
		{ask, 9, 258, usual},
		{ask, 0, 258, impl.Arp{Kind: 2, SrcIp: 258, DstHw: 7, DstIp: 1}},
		{ask, mostHw, 258, impl.Arp{Kind: 2, SrcHw: mostHw, SrcIp: 258, DstHw: 7, DstIp: 1}},
		{ask, -1, 258, none}, {ask, mostHw + 1, 258, none}, {ask, mostHw + 10, 258, none}, {ask, math.MaxInt, 258, none}, {ask, math.MinInt, 258, none},
		{ask, 9, 257, none}, {ask, 9, 259, none}, {ask, 9, 1, none}, {ask, 9, 0, none}, {ask, 9, -1, none}, {ask, 9, 1<<32 + 258, none}, {ask, 9, math.MinInt + 258, none},
		// The hardware address that is asked for does not matter.
		{with(func(a *impl.Arp) { a.DstHw = 0 }), 9, 258, usual}, {with(func(a *impl.Arp) { a.DstHw = 9 }), 9, 258, usual}, {with(func(a *impl.Arp) { a.DstHw = mostHw }), 9, 258, usual},
		{with(func(a *impl.Arp) { a.DstHw = -1 }), 9, 258, usual}, {with(func(a *impl.Arp) { a.DstHw = mostHw + 1 }), 9, 258, usual},
		{with(func(a *impl.Arp) { a.DstHw = math.MaxInt }), 9, 258, usual}, {with(func(a *impl.Arp) { a.DstHw = math.MinInt }), 9, 258, usual},
		// Another kind is no request.
		{with(func(a *impl.Arp) { a.Kind = impl.ArAnswer }), 9, 258, none}, {with(func(a *impl.Arp) { a.Kind = 0 }), 9, 258, none}, {with(func(a *impl.Arp) { a.Kind = 3 }), 9, 258, none},
		{with(func(a *impl.Arp) { a.Kind = -1 }), 9, 258, none}, {with(func(a *impl.Arp) { a.Kind = 257 }), 9, 258, none}, {with(func(a *impl.Arp) { a.Kind = 1<<32 + 1 }), 9, 258, none},
		// The reply would hold the asker's addresses.
		{with(func(a *impl.Arp) { a.SrcHw = -1 }), 9, 258, none}, {with(func(a *impl.Arp) { a.SrcHw = mostHw + 1 }), 9, 258, none}, {with(func(a *impl.Arp) { a.SrcHw = math.MaxInt }), 9, 258, none},
		{with(func(a *impl.Arp) { a.SrcIp = -1 }), 9, 258, none}, {with(func(a *impl.Arp) { a.SrcIp = mostIp + 1 }), 9, 258, none}, {with(func(a *impl.Arp) { a.SrcIp = math.MinInt }), 9, 258, none},
		{with(func(a *impl.Arp) { a.SrcHw = mostHw }), 9, 258, impl.Arp{Kind: 2, SrcHw: 9, SrcIp: 258, DstHw: mostHw, DstIp: 1}},
		{with(func(a *impl.Arp) { a.SrcIp = mostIp }), 9, 258, impl.Arp{Kind: 2, SrcHw: 9, SrcIp: 258, DstHw: 7, DstIp: mostIp}},
		// The addresses are equal, but no 32-bit words.
		{with(func(a *impl.Arp) { a.DstIp = -1 }), 9, -1, none}, {with(func(a *impl.Arp) { a.DstIp = mostIp + 1 }), 9, mostIp + 1, none},
		{with(func(a *impl.Arp) { a.DstIp = math.MaxInt }), 9, math.MaxInt, none}, {with(func(a *impl.Arp) { a.DstIp = math.MinInt }), 9, math.MinInt, none},
		{with(func(a *impl.Arp) { a.DstIp = mostIp }), 9, mostIp, impl.Arp{Kind: 2, SrcHw: 9, SrcIp: mostIp, DstHw: 7, DstIp: 1}},
		{with(func(a *impl.Arp) { a.DstIp = 0 }), 9, 0, impl.Arp{Kind: 2, SrcHw: 9, DstHw: 7, DstIp: 1}},
		// One asks for an address of its own.
		{with(func(a *impl.Arp) { a.SrcHw, a.SrcIp = 9, 258 }), 9, 258, impl.Arp{Kind: 2, SrcHw: 9, SrcIp: 258, DstHw: 9, DstIp: 258}},
		{impl.Arp{Kind: 1}, 0, 0, impl.Arp{Kind: 2}}, {none, 0, 0, none}, {none, 9, 258, none},
	} {
		got, ok := impl.ArpReply(c.a, c.mac, c.ip)
		if got != c.want || ok != (c.want != none) {
			t.Errorf("ArpReply(%+v, %d, %d) = %+v, %v, want %+v", c.a, c.mac, c.ip, got, ok, c.want)
		}
	}
}

func TestArpReplyOfEachField(t *testing.T) {
	for _, n := range arpFields {
		for _, m := range arpFields {
			for _, a := range arpsAt(n, m) {
				checkReply(t, a, 9, a.DstIp)
				checkReply(t, a, 9, 0x0a000002)
				checkReply(t, a, n, a.DstIp)
				checkReply(t, a, 9, m)
				checkReply(t, a, n, m)
			}
		}
	}
	for i := range 5000 {
		a := impl.Arp{Kind: impl.ArAsk, SrcHw: someInt(4*i) & mostHw, SrcIp: someInt(4*i+1) & mostIp, DstHw: someInt(4*i + 2), DstIp: someInt(4*i+3) & mostIp}
		checkReply(t, a, someInt(i)&mostHw, a.DstIp)
		checkReply(t, a, someInt(i), a.DstIp)
		for bit := range 64 {
			if got, ok := impl.ArpReply(a, 9, a.DstIp^1<<bit); got != (impl.Arp{}) || ok {
				t.Errorf("ArpReply(%+v, 9, %d) = %+v, %v", a, a.DstIp^1<<bit, got, ok)
			}
		}
	}
}

// Of all hosts, the owner of the address alone answers a request that it reads
// with its padding, and the asker reads the owner's addresses from the reply.
func TestArpRequestsAreAnsweredByTheOwner(t *testing.T) {
	hosts := []struct{ mac, ip int }{{0, mostIp}, {mostHw, 0}, {0x020000000001, 0x0a000001}, {0x020000000002, 0x0a000002}, {0x020000000003, 0x0a000003}, {258, 1 << 31}}
	for _, asker := range hosts {
		for _, owner := range hosts {
			raw := impl.ArpText(impl.Arp{Kind: impl.ArAsk, SrcHw: asker.mac, SrcIp: asker.ip, DstIp: owner.ip}) + strings.Repeat("\x00", 18)
			answers := 0
			for _, host := range hosts {
				ask, read := impl.ReadArp(raw)
				reply, ok := impl.ArpReply(ask, host.mac, host.ip)
				if !read || ok != (host == owner) {
					t.Errorf("the request of %d for %d: %d returns %v, %v", asker.ip, owner.ip, host.ip, read, ok)
				}
				if !ok {
					continue
				}
				answers++
				got, read := impl.ReadArp(impl.ArpText(reply) + strings.Repeat("\xff", 18))
				if !read || got != (impl.Arp{Kind: impl.ArAnswer, SrcHw: owner.mac, SrcIp: owner.ip, DstHw: asker.mac, DstIp: asker.ip}) {
					t.Errorf("the reply of %d to %d is read as %+v, %v", owner.ip, asker.ip, got, read)
				}
				// An answer is not answered again.
				if again, ok := impl.ArpReply(got, asker.mac, asker.ip); ok {
					t.Errorf("the reply %+v is answered with %+v", got, again)
				}
			}
			if answers != 1 {
				t.Errorf("the request of %d for %d has %d answers", asker.ip, owner.ip, answers)
			}
		}
	}
}

// Every function returns, and returns the same again, whatever it is given.
func TestArpIsTotal(t *testing.T) {
	defer func() {
		if r := recover(); r != nil {
			t.Fatalf("panic: %v", r)
		}
	}()
	for _, x := range farInts {
		for _, y := range farInts {
			for _, a := range append(arpsAt(x, y), impl.Arp{Kind: x, SrcHw: y, SrcIp: x, DstHw: y, DstIp: x}, impl.Arp{Kind: 1, SrcHw: x, SrcIp: y, DstHw: x, DstIp: y}) {
				s := impl.ArpText(a)
				if impl.ArpOk(a) != impl.ArpOk(a) || s != impl.ArpText(a) || (s != "") != impl.ArpOk(a) {
					t.Errorf("%+v has the text %q", a, s)
				}
				reply, ok := impl.ArpReply(a, x, y)
				if again, same := impl.ArpReply(a, x, y); reply != again || ok != same || ok != impl.ArpOk(reply) {
					t.Errorf("ArpReply(%+v, %d, %d) = %+v, %v", a, x, y, reply, ok)
				}
			}
		}
	}
	for i := range 5000 {
		s := someBytes(i%100, i)
		a, ok := impl.ReadArp(s)
		again, same := impl.ReadArp(s)
		if a != again || ok != same || ok != impl.ArpOk(a) {
			t.Errorf("ReadArp(%q) = %+v, %v", s, a, ok)
		}
		checkArpRead(t, s)
	}
}

// Reading a part of a string reads and changes nothing outside of it.
func TestArpArgumentsUnchanged(t *testing.T) {
	message := askBytes + someBytes(20, 9)
	whole := message + message + message
	kept := strings.Clone(whole)
	for from := range len(whole) {
		for to := from; to <= len(whole); to++ {
			got, ok := impl.ReadArp(whole[from:to])
			want, known := impl.ReadArp(strings.Clone(kept[from:to]))
			if got != want || ok != known || ok != (from%28 == 0 && to-from >= 28) {
				t.Errorf("ReadArp of %d to %d = %+v, %v", from, to, got, ok)
			}
		}
	}
	a, _ := impl.ReadArp(message)
	before := a
	if _, ok := impl.ArpReply(a, 1, a.DstIp); !ok || impl.ArpText(a) != message || !impl.ArpOk(a) || a != before || whole != kept {
		t.Error("an argument was changed")
	}
}
