package tests

import (
	"encoding/binary"
	"fmt"
	"math"
	"strings"
	"testing"

	"loop.example/g00504/impl"
)

// packetWhys are the words of the errors, in the order in which they are
// checked.
var packetWhys = []string{"ok", "short", "version", "sum", "length", "fragment", "ttl"}

// packetFields are the numbers at both ends of the 8-bit, 16-bit and 32-bit
// words and of int, and some that have the lowest bytes of such a word.
var packetFields = []int{
	math.MinInt, math.MinInt + 1, math.MinInt + 64, -1 << 32, -1<<32 + 64, -256, -192, -2, -1, 0, 1, 2, 6, 64, 127, 128, 254, 255, 256, 257, 256 + 64,
	32767, 32768, 65534, 65535, 65536, 65537, 65536 + 64, 1<<31 - 1, 1 << 31, mostIp - 1, mostIp, mostIp + 1, mostIp + 2, 1<<32 + 64, 1 << 48, 1 << 62, math.MaxInt - 1, math.MaxInt,
}

var packetSetters = []func(p *impl.Packet, n int){
	func(p *impl.Packet, n int) { p.Src = n },
	func(p *impl.Packet, n int) { p.Dst = n },
	func(p *impl.Packet, n int) { p.Ttl = n },
	func(p *impl.Packet, n int) { p.Proto = n },
	func(p *impl.Packet, n int) { p.Id = n },
}

// packetBodies are bodies of the lengths at which packets change, with bytes of
// one value and of many.
func packetBodies() []string {
	var list []string
	for _, n := range []int{0, 1, 2, 19, 20, 21, 235, 236, 237, 1478, 1479, 1480, 1481, 1482, 1500, 1501, 65515, 65516, 65536} {
		list = append(list, someBytes(n, n), strings.Repeat("\x00", n), strings.Repeat("\xff", n))
	}
	return list
}

// somePacket returns valid packets in an irregular, repeatable order.
func somePacket(seed int, size int) impl.Packet {
	return impl.Packet{
		Src: someInt(5*seed) & mostIp, Dst: someInt(5*seed+1) & mostIp, Ttl: max(1, someInt(5*seed+2)&255),
		Proto: someInt(5*seed+3) & 255, Id: someInt(5*seed+4) & 65535, Body: someBytes(size, seed),
	}
}

func validPacket(p impl.Packet) bool {
	words := isWord(p.Src, 32) && isWord(p.Dst, 32) && isWord(p.Ttl, 8) && isWord(p.Proto, 8) && isWord(p.Id, 16)
	return words && p.Ttl != 0 && len(p.Body) < 1481
}

// replaced returns s with the bytes from at on replaced by those of by.
func replaced(s string, at int, by string) string { return s[:at] + by + s[at+len(by):] }

// resealed returns s with the checksum of its first 20 bytes made right.
func resealed(s string) string {
	empty := replaced(s, 10, "\x00\x00")
	return replaced(s, 10, wideBytes(65535-remainder(sumOfWords(empty[:20])), 2))
}

// packetBytes returns the fields of p, each in its number of bytes, whether it
// fits or not.
func packetBytes(p impl.Packet) string {
	head := "E\x00" + wideBytes(20+len(p.Body), 2) + wideBytes(p.Id, 2) + "\x00\x00" + wideBytes(p.Ttl, 1) + wideBytes(p.Proto, 1)
	return resealed(head + "\x00\x00" + wideBytes(p.Src, 4) + wideBytes(p.Dst, 4) + p.Body)
}

// packetFaults tells which of the six errors of the document apply to s, by
// their numbers. An error that lies beyond the end of s does not apply.
func packetFaults(s string) [7]bool {
	var faults [7]bool
	if faults[1] = len(s) < 20; faults[1] {
		return faults
	}
	total := int(binary.BigEndian.Uint16([]byte(s[2:4])))
	faults[2] = s[0] != 'E'
	faults[3] = remainder(sumOfWords(s[:20])) != 65535
	faults[4] = total < 20 || total > len(s) || total > 1500
	faults[5] = s[6]&0xbf != 0 || s[7] != 0
	faults[6] = s[8] == 0
	return faults
}

// packetAt reads a packet as encoding/binary does.
func packetAt(s string) (impl.Packet, int) {
	for why, fault := range packetFaults(s) {
		if fault {
			return impl.Packet{}, why
		}
	}
	word := func(at int) int { return int(binary.BigEndian.Uint16([]byte(s[at : at+2]))) }
	address := func(at int) int { return int(binary.BigEndian.Uint32([]byte(s[at : at+4]))) }
	return impl.Packet{Src: address(12), Dst: address(16), Ttl: int(s[8]), Proto: int(s[9]), Id: word(4), Body: s[20:word(2)]}, 0
}

// packetShown returns p for a message, with the beginning of its body.
func packetShown(p impl.Packet) string {
	return fmt.Sprintf("{Src %d, Dst %d, Ttl %d, Proto %d, Id %d, %d bytes %.40q}", p.Src, p.Dst, p.Ttl, p.Proto, p.Id, len(p.Body), p.Body)
}

// checkPacket checks all that is asked of the text of a packet.
func checkPacket(t *testing.T, p impl.Packet) {
	t.Helper()
	ok, want := validPacket(p), ""
	if ok {
		want = packetBytes(p)
	}
	if got := impl.PacketOk(p); got != ok {
		t.Errorf("PacketOk(%s) = %v", packetShown(p), got)
	}
	s := impl.PacketText(p)
	if s != want {
		t.Errorf("PacketText(%s) = %.80q, want %.80q", packetShown(p), s, want)
	}
	if ok {
		for _, behind := range []string{"", "\x00", "\xff\xfe", s} {
			if got, why := impl.ReadPacket(s + behind); got != p || why != 0 {
				t.Errorf("ReadPacket(PacketText(%s)) with %.40q behind it = %s, %d", packetShown(p), behind, packetShown(got), why)
			}
		}
	}
}

// checkPacketRead checks all that is asked of reading a text, and returns why it
// is no packet.
func checkPacketRead(t *testing.T, s string) int {
	t.Helper()
	want, reason := packetAt(s)
	got, why := impl.ReadPacket(s)
	if got != want || why != reason {
		t.Errorf("ReadPacket of %d bytes %.60q = %s, %d, want %s, %d", len(s), s, packetShown(got), why, packetShown(want), reason)
	}
	if why == 0 && (!impl.PacketOk(got) || impl.PacketText(got) != packetBytes(got)) {
		t.Errorf("ReadPacket of %d bytes %.60q = %s, which is not valid", len(s), s, packetShown(got))
	}
	if why != 0 && got != (impl.Packet{}) {
		t.Errorf("ReadPacket of %d bytes %.60q = %s with the error %d", len(s), s, packetShown(got), why)
	}
	return why
}

// checkWhy checks that reading s returns why.
func checkWhy(t *testing.T, s string, why int) {
	t.Helper()
	if got := checkPacketRead(t, s); got != why {
		t.Errorf("ReadPacket of %d bytes %.60q returns %d, want %d (%s)", len(s), s, got, why, packetWhys[why])
	}
}

func TestPacketConstants(t *testing.T) {
	if impl.PrTcp != 6 || impl.MaxBody != 1500 {
		t.Error("a constant of the packets differs from the document")
	}
}

func TestPacketOkOfEachField(t *testing.T) {
	for _, c := range []struct {
		n                      int
		ip, ttl, proto, number bool
	}{
		{math.MinInt, false, false, false, false}, {math.MinInt + 1, false, false, false, false}, {-4294967296, false, false, false, false}, {-1, false, false, false, false},
		{0, true, false, true, true}, {1, true, true, true, true}, {2, true, true, true, true}, {6, true, true, true, true}, {254, true, true, true, true}, {255, true, true, true, true},
		{256, true, false, false, true}, {257, true, false, false, true}, {65534, true, false, false, true}, {65535, true, false, false, true},
		{65536, true, false, false, false}, {65537, true, false, false, false}, {4294967294, true, false, false, false}, {4294967295, true, false, false, false},
		{4294967296, false, false, false, false}, {4294967297, false, false, false, false}, {math.MaxInt - 1, false, false, false, false}, {math.MaxInt, false, false, false, false},
	} {
		for _, body := range []string{"", "hi"} {
			for i, want := range []bool{c.ip, c.ip, c.ttl, c.proto, c.number} {
				p := impl.Packet{Src: 5, Dst: 6, Ttl: 7, Proto: 8, Id: 9, Body: body}
				packetSetters[i](&p, c.n)
				if got := impl.PacketOk(p); got != want {
					t.Errorf("PacketOk(%s) = %v", packetShown(p), got)
				}
				if text := impl.PacketText(p); (text != "") != want {
					t.Errorf("PacketText(%s) = %q", packetShown(p), text)
				}
			}
		}
	}
	if impl.PacketOk(impl.Packet{}) || impl.PacketText(impl.Packet{}) != "" || !impl.PacketOk(impl.Packet{Ttl: 1}) {
		t.Error("PacketOk of a packet with zero fields")
	}
}

func TestPacketOkOfEachBody(t *testing.T) {
	for n := range 1600 {
		p := impl.Packet{Src: 5, Dst: 6, Ttl: 7, Proto: 8, Id: 9, Body: strings.Repeat("a", n)}
		want := n <= 1480
		if got := impl.PacketOk(p); got != want {
			t.Errorf("PacketOk with a body of %d bytes is %v", n, got)
		}
		if text := impl.PacketText(p); want && len(text) != 20+n || !want && text != "" {
			t.Errorf("PacketText with a body of %d bytes has %d bytes", n, len(text))
		}
		checkPacket(t, p)
	}
	for _, body := range packetBodies() {
		for _, proto := range []int{0, impl.PrTcp, 255, 256} {
			checkPacket(t, impl.Packet{Src: mostIp, Dst: 1, Ttl: 64, Proto: proto, Id: 65535, Body: body})
		}
	}
}

func TestPacketText(t *testing.T) {
	long := strings.Repeat("\xff", 1480)
	for _, c := range []struct {
		p    impl.Packet
		want string
	}{
		{impl.Packet{Ttl: 1}, "\x45\x00\x00\x14\x00\x00\x00\x00\x01\x00\xb9\xeb\x00\x00\x00\x00\x00\x00\x00\x00"},
		{impl.Packet{Src: 3232235521, Dst: 3232235719, Ttl: 64, Proto: 17, Body: "hello"}, "\x45\x00\x00\x19\x00\x00\x00\x00\x40\x11\xf8\xbb\xc0\xa8\x00\x01\xc0\xa8\x00\xc7hello"},
		{impl.Packet{Src: 0x01020304, Dst: 0x05060708, Ttl: 9, Proto: 10, Id: 0x0b0c, Body: "\x0d"}, "\x45\x00\x00\x15\x0b\x0c\x00\x00\x09\x0a\x96\xc0\x01\x02\x03\x04\x05\x06\x07\x08\x0d"},
		{impl.Packet{Src: mostIp, Dst: mostIp, Ttl: 255, Proto: 255, Id: 65535, Body: long}, "\x45\x00\x05\xdc\xff\xff\x00\x00\xff\xff\xb5\x23\xff\xff\xff\xff\xff\xff\xff\xff" + long},
		{impl.Packet{}, ""}, {impl.Packet{Src: 1, Dst: 2, Proto: 6, Id: 3, Body: "hi"}, ""}, {impl.Packet{Ttl: -1}, ""}, {impl.Packet{Ttl: 256}, ""},
		{impl.Packet{Ttl: 1, Src: -1}, ""}, {impl.Packet{Ttl: 1, Src: mostIp + 1}, ""}, {impl.Packet{Ttl: 1, Dst: -1}, ""}, {impl.Packet{Ttl: 1, Dst: mostIp + 1}, ""},
		{impl.Packet{Ttl: 1, Proto: -1}, ""}, {impl.Packet{Ttl: 1, Proto: 256}, ""}, {impl.Packet{Ttl: 1, Id: -1}, ""}, {impl.Packet{Ttl: 1, Id: 65536}, ""}, {impl.Packet{Ttl: 1, Body: long + "a"}, ""},
	} {
		if got := impl.PacketText(c.p); got != c.want {
			t.Errorf("PacketText(%s) = %q, want %q", packetShown(c.p), got, c.want)
		}
	}
}

// The checksum may be any word but 65535: that is the checksum of zeros alone,
// and a header begins with 69.
func TestPacketTextOfEachChecksum(t *testing.T) {
	found := map[int]bool{}
	for id := range 65536 {
		s := impl.PacketText(impl.Packet{Src: 7, Dst: 8, Ttl: 9, Proto: 10, Id: id})
		if len(s) != 20 || !impl.SumRight(s) || s != resealed(s) {
			t.Fatalf("the packet with the Id %d has the text %q", id, s)
		}
		found[int(s[10])<<8|int(s[11])] = true
	}
	if len(found) != 65535 || found[65535] {
		t.Errorf("packets with all Ids have %d checksums", len(found))
	}
}

func TestPacketsRoundTrip(t *testing.T) {
	for _, n := range packetFields {
		for _, m := range packetFields {
			for i := range packetSetters {
				for j := i; j < len(packetSetters); j++ {
					p := impl.Packet{Src: 0x0a000001, Dst: 0x0a000002, Ttl: 64, Proto: impl.PrTcp, Id: 258, Body: "some text"}
					packetSetters[j](&p, m)
					packetSetters[i](&p, n)
					checkPacket(t, p)
				}
			}
		}
	}
	for i := range 5000 {
		checkPacket(t, impl.Packet{Src: someInt(5 * i), Dst: someInt(5*i + 1), Ttl: someInt(5*i + 2), Proto: someInt(5*i + 3), Id: someInt(5*i + 4), Body: someBytes(i%90, i)})
		checkPacket(t, somePacket(i, i%90))
		checkPacket(t, somePacket(i, i*7%1490))
	}
}

func TestReadPacket(t *testing.T) {
	const head = "\x45\x00\x00\x15\x0b\x0c\x00\x00\x09\x0a\x96\xc0\x01\x02\x03\x04\x05\x06\x07\x08"
	fields := impl.Packet{Src: 0x01020304, Dst: 0x05060708, Ttl: 9, Proto: 10, Id: 0x0b0c, Body: "\x0d"}
	for _, c := range []struct {
		text string
		want impl.Packet
	}{
		{head + "\x0d", fields}, {head + "\x0d\x0e", fields}, {head + "\x0d" + head, fields}, {head + "\x0d" + strings.Repeat("\xff", 100000), fields},
		// Another second byte and the don't-fragment bit are ignored.
		{"\x45\x01\x00\x15\x0b\x0c\x00\x00\x09\x0a\x96\xbf" + head[12:] + "\x0d", fields}, {"\x45\xff\x00\x15\x0b\x0c\x00\x00\x09\x0a\x95\xc1" + head[12:] + "\x0d", fields},
		{"\x45\x00\x00\x15\x0b\x0c\x40\x00\x09\x0a\x56\xc0" + head[12:] + "\x0d", fields}, {"\x45\xff\x00\x15\x0b\x0c\x40\x00\x09\x0a\x55\xc1" + head[12:] + "\x0d", fields},
		{"\x45\x00\x00\x14\x00\x00\x00\x00\x01\x00\xb9\xeb\x00\x00\x00\x00\x00\x00\x00\x00", impl.Packet{Ttl: 1}},
		{"\x45\x00\x00\x14\x00\x00\x00\x00\x01\x00\xb9\xeb\x00\x00\x00\x00\x00\x00\x00\x00\x01", impl.Packet{Ttl: 1}},
		{"\x45\x00\x00\x15\x00\x00\x00\x00\x01\x00\xb9\xea\x00\x00\x00\x00\x00\x00\x00\x00\x01", impl.Packet{Ttl: 1, Body: "\x01"}},
	} {
		if got, why := impl.ReadPacket(c.text); got != c.want || why != 0 {
			t.Errorf("ReadPacket(%q) = %s, %d, want %s", c.text, packetShown(got), why, packetShown(c.want))
		}
	}
	for _, c := range []struct {
		text string
		why  int
	}{
		{"", 1}, {"\x45", 1}, {head[:19], 1}, {head[1:], 1}, {strings.Repeat("\x00", 19), 1}, {strings.Repeat("\xff", 19), 1},
		{strings.Repeat("\x00", 20), 2}, {strings.Repeat("\xff", 20), 2}, {strings.Repeat("\xff", 1600), 2}, {"\x00" + head + "\x0d", 2}, {head[1:] + "\x0d\x0d", 2},
		// Options in the header, and another version.
		{"\x46" + head[1:] + "\x0d", 2}, {"\x65" + head[1:] + "\x0d", 2},
		{"E" + strings.Repeat("\x00", 19), 3}, {"E" + strings.Repeat("\xff", 19), 3}, {head[:19] + "\x09\x0d", 3}, {head[:10] + "\x00\x00" + head[12:] + "\x0d", 3},
		{head, 4},
	} {
		if got, why := impl.ReadPacket(c.text); got != (impl.Packet{}) || why != c.why {
			t.Errorf("ReadPacket(%q) = %s, %d, want the zero Packet and %d", c.text, packetShown(got), why, c.why)
		}
	}
}

func TestReadPacketOfEachLength(t *testing.T) {
	for i := range 20 {
		s := impl.PacketText(somePacket(i, 100))
		for n := range len(s) {
			why := 4
			if n < 20 {
				why = 1
			}
			checkWhy(t, s[:n], why)
		}
		for n := 20; n < 1600; n++ {
			text := resealed(replaced(s[:20], 2, wideBytes(n, 2))) + someBytes(n-20, i)
			why := 0
			if n > 1500 {
				why = 4
			}
			checkWhy(t, text, why)
		}
	}
	for n := range 200 {
		for _, s := range []string{someBytes(n, n), strings.Repeat("\x00", n), strings.Repeat("\xff", n), strings.Repeat("E", n)} {
			checkPacketRead(t, s)
		}
	}
}

func TestReadPacketOfEachTotalLength(t *testing.T) {
	for _, size := range []int{20, 21, 25, 255, 256, 1499, 1500, 1501, 1600, 65535, 70000} {
		p := somePacket(size, min(size-20, 1480))
		s := impl.PacketText(p)
		s += someBytes(size-len(s), size)
		check := func(total int) {
			text := replaced(s, 2, wideBytes(total, 2))
			if text != s {
				checkWhy(t, text, 3)
			}
			if total < 20 || total > size || total > 1500 {
				checkWhy(t, resealed(text), 4)
				return
			}
			checkWhy(t, resealed(text), 0)
			want := p
			want.Body = s[20:total]
			if got, _ := impl.ReadPacket(resealed(text)); got != want {
				t.Errorf("ReadPacket of %d bytes with the total length %d has %d bytes", size, total, len(got.Body))
			}
		}
		for total := range 1700 {
			check(total)
		}
		for _, total := range []int{size & 65535, (size + 1) & 65535, 5120, 6400, 32768 + 20, 32768 + size&32767, 65535} {
			check(total)
		}
	}
}

func TestReadPacketOfEachFragment(t *testing.T) {
	p := somePacket(3, 9)
	s := impl.PacketText(p)
	for n := range 65536 {
		text := replaced(s, 6, wideBytes(n, 2))
		if n == 65535 {
			// To the checksum, which is a sum modulo 65535, this is the same as 0.
			checkWhy(t, text, 5)
		} else if n != 0 {
			checkWhy(t, text, 3)
		}
		if n != 0 && n != 0x4000 {
			checkWhy(t, resealed(text), 5)
			continue
		}
		for _, behind := range []string{"", "\x00", "further bytes"} {
			if got, why := impl.ReadPacket(resealed(text) + behind); got != p || why != 0 {
				t.Errorf("ReadPacket with the fragmentation field %d = %s, %d", n, packetShown(got), why)
			}
		}
	}
	for bit := range 16 {
		checkWhy(t, resealed(replaced(s, 6, wideBytes(1<<bit|0x4000, 2))), map[bool]int{true: 0, false: 5}[bit == 14])
	}
}

// A header in which one byte is changed is rejected, whatever else is changed in
// the body.
func TestReadPacketRejectsChangedHeaders(t *testing.T) {
	list := []impl.Packet{{Ttl: 1}, {Src: mostIp, Dst: mostIp, Ttl: 255, Proto: 255, Id: 65535, Body: strings.Repeat("\xff", 1480)}, {Src: 1, Dst: 2, Ttl: 64, Proto: 6, Body: "hi"}}
	for i := range 20 {
		list = append(list, somePacket(i, i*9))
	}
	for _, p := range list {
		s := impl.PacketText(p)
		for at := range 20 {
			for c := range 256 {
				changed := replaced(s, at, string([]byte{byte(c)}))
				if changed == s {
					continue
				}
				why := 3
				if at == 0 {
					why = 2
				}
				checkWhy(t, changed, why)
				checkWhy(t, changed+"behind", why)
				// With a checksum that is right, only some bytes matter.
				checkPacketRead(t, resealed(changed))
				checkPacketRead(t, resealed(changed+"behind"))
			}
		}
	}
}

// With a checksum that is right, the bytes of the fields may have all values, and
// a Ttl of 0 is the last error.
func TestReadPacketOfEachByte(t *testing.T) {
	p := somePacket(8, 30)
	s := impl.PacketText(p)
	for c := range 256 {
		by := string([]byte{byte(c)})
		version, ttl := 2, 0
		if c == 69 {
			version = 0
		}
		if c == 0 {
			ttl = 6
		}
		checkWhy(t, resealed(replaced(s, 0, by)), version)
		checkWhy(t, resealed(replaced(s, 8, by)), ttl)
		for _, at := range []int{1, 4, 5, 9, 12, 13, 14, 15, 16, 17, 18, 19} {
			checkWhy(t, resealed(replaced(s, at, by)), 0)
		}
		if got, why := impl.ReadPacket(resealed(replaced(s, 1, by))); got != p || why != 0 {
			t.Errorf("ReadPacket with the second byte %d = %s, %d", c, packetShown(got), why)
		}
		if got, why := impl.ReadPacket(resealed(replaced(s, 8, "\x00"+by))); got != (impl.Packet{}) || why != 6 {
			t.Errorf("ReadPacket with a Ttl of 0 and the protocol %d = %s, %d", c, packetShown(got), why)
		}
	}
	checkWhy(t, replaced(s, 8, "\x00"), 3)
	checkWhy(t, replaced(s, 1, "\x01"), 3)
}

// The body is not covered by the checksum: other bytes there are another packet.
func TestReadPacketOfChangedBodies(t *testing.T) {
	p := somePacket(4, 40)
	s := impl.PacketText(p)
	for at := 20; at < len(s); at++ {
		for c := range 256 {
			want := p
			want.Body = replaced(p.Body, at-20, string([]byte{byte(c)}))
			if got, why := impl.ReadPacket(s[:20] + want.Body); got != want || why != 0 {
				t.Errorf("ReadPacket with another byte %d in the body = %s, %d", c, packetShown(got), why)
			}
		}
	}
}

// Where the checksum is 0, 65535 verifies as well.
func TestReadPacketOfBothZeroSums(t *testing.T) {
	for i := range 50 {
		p := somePacket(i, i)
		p.Id = 0
		s := impl.PacketText(p)
		p.Id, _ = impl.GetWord(s, 10, 2)
		s = impl.PacketText(p)
		if s[10:12] != "\x00\x00" {
			t.Fatalf("PacketText(%s) = %q", packetShown(p), s)
		}
		if got, why := impl.ReadPacket(replaced(s, 10, "\xff\xff")); got != p || why != 0 {
			t.Errorf("ReadPacket with the checksum 65535 = %s, %d, want %s", packetShown(got), why, packetShown(p))
		}
		for _, sum := range []int{1, 255, 256, 32768, 65280, 65534} {
			checkWhy(t, replaced(s, 10, wideBytes(sum, 2)), 3)
		}
	}
}

func TestReadPacketIgnoresFurtherBytes(t *testing.T) {
	for i := range 40 {
		p := somePacket(i, i*37)
		s := impl.PacketText(p)
		for _, behind := range arpPadding() {
			if got, why := impl.ReadPacket(s + behind); got != p || why != 0 {
				t.Errorf("ReadPacket(PacketText(%s)) with %d bytes behind it = %s, %d", packetShown(p), len(behind), packetShown(got), why)
			}
			// Further bytes do not make a header right either.
			checkWhy(t, replaced(s, 10, wideBytes(int(s[10])^1, 1))+behind, 3)
		}
	}
}

// breaks returns changes of a valid text of 40 bytes, by the number of the error
// that they cause.
func breaks() [7][]func(s string) string {
	put := func(at int, by string) func(string) string {
		return func(s string) string { return replaced(s, at, by) }
	}
	cut := func(n int) func(string) string { return func(s string) string { return s[:n] } }
	add := func(n byte) func(string) string {
		return func(s string) string { return replaced(s, 11, string([]byte{s[11] + n})) }
	}
	return [7][]func(string) string{
		{},
		{cut(0), cut(1), cut(9), cut(12), cut(19)},
		{put(0, "\x46"), put(0, "\x44"), put(0, "\x00"), put(0, "\xff"), put(0, "\x65")},
		{add(1), add(2), add(128), add(255)},
		{put(2, "\x00\x13"), put(2, "\x00\x00"), put(2, "\x05\xdd"), put(2, "\xff\xff"), put(2, "\x00\x29")},
		{put(6, "\x80\x00"), put(6, "\x20\x00"), put(6, "\x60\x00"), put(6, "\x00\x01"), put(6, "\xff\xff")},
		{put(8, "\x00")},
	}
}

// broken returns s with the errors whose number in picks is not 0: it tells which
// of the changes is made, from 1 on. The checksum is made right, or wrong, after
// the fields have changed, and the text is cut last.
func broken(s string, picks [7]int) string {
	all := breaks()
	for _, why := range []int{2, 4, 5, 6, 3, 1} {
		if why == 3 {
			s = resealed(s)
		}
		if picks[why] > 0 {
			s = all[why][picks[why]-1](s)
		}
	}
	return s
}

// Of all errors that apply, the first in the order of the document is returned.
func TestReadPacketReturnsTheFirstError(t *testing.T) {
	all := breaks()
	for seed := range 60 {
		s := impl.PacketText(somePacket(seed, 20))
		for set := range 64 {
			var picks [7]int
			var chosen [7]bool
			first := 0
			for why := 6; why >= 1; why-- {
				if set>>(why-1)&1 == 1 {
					picks[why], chosen[why], first = 1+seed%len(all[why]), true, why
				}
			}
			text := broken(s, picks)
			if !chosen[1] && packetFaults(text) != chosen {
				t.Fatalf("%q has the errors %v, want %v", text, packetFaults(text), chosen)
			}
			checkWhy(t, text, first)
		}
	}
}

func TestReadPacketReturnsTheFirstOfTwoErrors(t *testing.T) {
	all := breaks()
	s := impl.PacketText(impl.Packet{Src: 0x0a000001, Dst: 0x0a000002, Ttl: 64, Proto: impl.PrTcp, Id: 77, Body: "a body of 20 bytes!!"})
	for one := 1; one <= 6; one++ {
		for other := one + 1; other <= 6; other++ {
			for i := range all[one] {
				for j := range all[other] {
					var picks [7]int
					picks[one], picks[other] = i+1, j+1
					text := broken(s, picks)
					if got, why := impl.ReadPacket(text); why != one || got != (impl.Packet{}) {
						t.Errorf("ReadPacket(%q) with the errors %s and %s = %s, %d", text, packetWhys[one], packetWhys[other], packetShown(got), why)
					}
				}
			}
		}
	}
}

func TestWhyWord(t *testing.T) {
	for code, want := range packetWhys {
		if got := impl.WhyWord(code); got != want {
			t.Errorf("WhyWord(%d) = %q, want %q", code, got, want)
		}
	}
	for _, code := range []int{math.MinInt, math.MinInt + 1, -1 << 32, -256, -7, -2, -1, 7, 8, 255, 256, 257, 262, 65536, 65537, 1 << 32, 1<<32 + 1, 1 << 62, math.MaxInt - 1, math.MaxInt} {
		if got := impl.WhyWord(code); got != "?" {
			t.Errorf("WhyWord(%d) = %q, want ?", code, got)
		}
	}
	for code := -3000; code < 3000; code++ {
		if got := impl.WhyWord(code); (got == "?") != (code < 0 || code > 6) {
			t.Errorf("WhyWord(%d) = %q", code, got)
		}
	}
}

// Every function returns, and returns the same again, whatever it is given.
func TestPacketIsTotal(t *testing.T) {
	defer func() {
		if r := recover(); r != nil {
			t.Fatalf("panic: %v", r)
		}
	}()
	for _, x := range farInts {
		for _, y := range farInts {
			for _, body := range []string{"", "a", someBytes(1481, 2)} {
				for _, p := range []impl.Packet{{Src: x, Dst: y, Ttl: x, Proto: y, Id: x, Body: body}, {Src: 1, Dst: 2, Ttl: x, Proto: 3, Id: y, Body: body}, {Src: x, Dst: y, Ttl: 4, Body: body}} {
					s := impl.PacketText(p)
					if impl.PacketOk(p) != impl.PacketOk(p) || s != impl.PacketText(p) || (s != "") != impl.PacketOk(p) {
						t.Errorf("%s has the text %q", packetShown(p), s)
					}
				}
			}
		}
		if word := impl.WhyWord(x); word == "" || word != impl.WhyWord(x) {
			t.Errorf("WhyWord(%d) = %q", x, word)
		}
	}
	for i := range 20000 {
		s := someBytes(i%100, i)
		p, why := impl.ReadPacket(s)
		if again, same := impl.ReadPacket(s); p != again || why != same || why < 0 || why > 6 || impl.PacketOk(p) != (why == 0) {
			t.Errorf("ReadPacket(%q) = %s, %d", s, packetShown(p), why)
		}
		checkPacketRead(t, s)
		if len(s) >= 20 {
			checkPacketRead(t, resealed("E"+s[1:]))
			checkPacketRead(t, resealed("E\x00"+wideBytes(i%60, 2)+s[4:6]+"\x00\x00"+s[8:]))
		}
	}
}

// Reading a part of a string reads and changes nothing outside of it.
func TestPacketArgumentsUnchanged(t *testing.T) {
	packet := impl.PacketText(somePacket(9, 15))
	whole := packet + packet + packet
	kept := strings.Clone(whole)
	for from := range len(whole) {
		for to := from; to <= len(whole); to++ {
			got, why := impl.ReadPacket(whole[from:to])
			want, reason := impl.ReadPacket(strings.Clone(kept[from:to]))
			if got != want || why != reason || (why == 0) != (from%35 == 0 && to-from >= 35) {
				t.Errorf("ReadPacket of %d to %d = %s, %d", from, to, packetShown(got), why)
			}
		}
	}
	p, _ := impl.ReadPacket(packet)
	before := p
	if impl.PacketText(p) != packet || !impl.PacketOk(p) || p != before || whole != kept {
		t.Error("an argument was changed")
	}
}
