package tests

import (
	"encoding/binary"
	"fmt"
	"math"
	"strings"
	"testing"

	"loop.example/g00504/impl"
)

// The addresses between which segments are sent, if these do not matter.
const (
	fromIp = 0x0a000001
	toIp   = 0xc0a800c7
)

// segmentNumbers are the numbers at both ends of the 6-bit, 16-bit and 32-bit
// words and of int, and some that have the lowest bytes of such a word.
var segmentNumbers = []int{
	math.MinInt, math.MinInt + 18, -1 << 32, -1<<32 + 80, -65536, -65536 + 80, -64, -46, -2, -1, 0, 1, 2, 18, 31, 32, 62, 63, 64, 65, 64 + 18, 127, 128, 255, 256,
	32767, 32768, 65534, 65535, 65536, 65537, 65536 + 80, 1<<31 - 1, 1 << 31, mostIp - 1, mostIp, mostIp + 1, mostIp + 2, 1<<32 + 80, 1 << 62, math.MaxInt - 1, math.MaxInt,
}

var segmentSetters = []func(g *impl.Segment, n int){
	func(g *impl.Segment, n int) { g.From = n },
	func(g *impl.Segment, n int) { g.To = n },
	func(g *impl.Segment, n int) { g.Seq = n },
	func(g *impl.Segment, n int) { g.Ack = n },
	func(g *impl.Segment, n int) { g.Flags = n },
	func(g *impl.Segment, n int) { g.Window = n },
}

// segmentIps are addresses, and the numbers beside them.
var segmentIps = []int{
	math.MinInt, math.MinInt + 1, -1 << 32, -2, -1, 0, 1, 2, 255, 256, 65534, 65535, 65536, 1<<31 - 1, 1 << 31, fromIp, toIp, mostIp - 1, mostIp, mostIp + 1, mostIp + 2,
	1<<32 + fromIp, 1 << 48, 1 << 62, math.MaxInt - 1, math.MaxInt,
}

// segmentBodies are bodies of the lengths at which segments change, with bytes
// of one value and of many.
func segmentBodies() []string {
	var list []string
	for _, n := range []int{0, 1, 2, 3, 7, 235, 236, 237, 1399, 1400, 1419, 1420, 1421, 1422, 1480, 1500, 65515, 65516, 65535, 65536} {
		list = append(list, someBytes(n, n), strings.Repeat("\x00", n), strings.Repeat("\xff", n))
	}
	return list
}

// someSegment returns valid segments in an irregular, repeatable order.
func someSegment(seed int, size int) impl.Segment {
	return impl.Segment{
		From: someInt(7*seed) & 65535, To: someInt(7*seed+1) & 65535, Seq: someInt(7*seed+2) & mostIp, Ack: someInt(7*seed+3) & mostIp,
		Flags: someInt(7*seed+4) & 63, Window: someInt(7*seed+5) & 65535, Opts: someOptions(seed), Body: someBytes(size, seed),
	}
}

func validSegment(g impl.Segment) bool {
	words := isWord(g.From, 16) && isWord(g.To, 16) && isWord(g.Seq, 32) && isWord(g.Ack, 32) && isWord(g.Flags, 6) && isWord(g.Window, 16)
	return words && validOptions(g.Opts) && len(g.Body) < 1421
}

// segmentSum returns the checksum of the bytes of s between two addresses, of
// which only the lowest four bytes count.
func segmentSum(s string, src, dst int) int {
	return 65535 - remainder(sumOfWords(wideBytes(src, 4)+wideBytes(dst, 4)+"\x00\x06"+wideBytes(len(s), 2)+s))
}

// sealedSegment returns s with its checksum made right, if it has one.
func sealedSegment(s string, src, dst int) string {
	if len(s) < 18 {
		return s
	}
	empty := replaced(s, 16, "\x00\x00")
	return replaced(empty, 16, wideBytes(segmentSum(empty, src, dst), 2))
}

// segmentBytes returns the text of g, which is valid.
func segmentBytes(g impl.Segment, src, dst int) string {
	options := optionBytes(g.Opts)
	head := binary.BigEndian.AppendUint16(nil, uint16(g.From))
	head = binary.BigEndian.AppendUint16(head, uint16(g.To))
	head = binary.BigEndian.AppendUint32(head, uint32(g.Seq))
	head = binary.BigEndian.AppendUint32(head, uint32(g.Ack))
	head = append(head, byte(5+len(options)/4)<<4, byte(g.Flags))
	head = binary.BigEndian.AppendUint16(head, uint16(g.Window))
	return sealedSegment(string(head)+"\x00\x00\x00\x00"+options+g.Body, src, dst)
}

// segmentAt reads a segment as encoding/binary does.
func segmentAt(s string, src, dst int) (impl.Segment, bool) {
	if len(s) < 20 || len(s) > 65535 || !isWord(src, 32) || !isWord(dst, 32) || segmentSum(s, src, dst) != 0 {
		return impl.Segment{}, false
	}
	b := []byte(s)
	head := 4 * int(b[12]>>4)
	if head < 20 || head > len(b) || len(b)-head > 1420 {
		return impl.Segment{}, false
	}
	opts, ok := optionsAt(string(b[20:head]))
	if !ok {
		return impl.Segment{}, false
	}
	return impl.Segment{
		From: int(binary.BigEndian.Uint16(b)), To: int(binary.BigEndian.Uint16(b[2:])), Seq: int(binary.BigEndian.Uint32(b[4:])), Ack: int(binary.BigEndian.Uint32(b[8:])),
		Flags: int(b[13] % 64), Window: int(binary.BigEndian.Uint16(b[14:])), Opts: opts, Body: string(b[head:]),
	}, true
}

// segmentShown returns g for a message, with the beginning of its body.
func segmentShown(g impl.Segment) string {
	return fmt.Sprintf("{From %d, To %d, Seq %d, Ack %d, Flags %d, Window %d, Opts %+v, %d bytes %.40q}", g.From, g.To, g.Seq, g.Ack, g.Flags, g.Window, g.Opts, len(g.Body), g.Body)
}

// checkSegment checks all that is asked of the text of a segment.
func checkSegment(t *testing.T, g impl.Segment, src, dst int) {
	t.Helper()
	ok, want := validSegment(g), ""
	if ok && isWord(src, 32) && isWord(dst, 32) {
		want = segmentBytes(g, src, dst)
	}
	if got := impl.SegmentOk(g); got != ok {
		t.Errorf("SegmentOk(%s) = %v", segmentShown(g), got)
	}
	s := impl.SegmentText(g, src, dst)
	if s != want {
		t.Errorf("SegmentText(%s, %d, %d) = %.80q, want %.80q", segmentShown(g), src, dst, s, want)
	}
	got, read := impl.ReadSegment(s, src, dst)
	if want == "" {
		if got != (impl.Segment{}) || read {
			t.Errorf("ReadSegment of no text = %s, %v", segmentShown(got), read)
		}
		return
	}
	if got != g || !read {
		t.Errorf("ReadSegment(SegmentText(%s, %d, %d)) = %s, %v", segmentShown(g), src, dst, segmentShown(got), read)
	}
	if !impl.SumRight(impl.PseudoHead(src, dst, len(s)) + s) {
		t.Errorf("SegmentText(%s, %d, %d) = %.80q, which has another checksum", segmentShown(g), src, dst, s)
	}
}

// checkSegmentRead checks all that is asked of reading a text, and returns
// whether it is a segment.
func checkSegmentRead(t *testing.T, s string, src, dst int) bool {
	t.Helper()
	want, known := segmentAt(s, src, dst)
	got, ok := impl.ReadSegment(s, src, dst)
	if got != want || ok != known {
		t.Errorf("ReadSegment of %d bytes %.60q from %d to %d = %s, %v, want %s, %v", len(s), s, src, dst, segmentShown(got), ok, segmentShown(want), known)
	}
	if !ok {
		if got != (impl.Segment{}) {
			t.Errorf("ReadSegment of %d bytes %.60q = %s with false", len(s), s, segmentShown(got))
		}
		return false
	}
	if !impl.SegmentOk(got) || impl.SegmentText(got, src, dst) != segmentBytes(got, src, dst) {
		t.Errorf("ReadSegment of %d bytes %.60q = %s, which is not valid", len(s), s, segmentShown(got))
	}
	if again, read := impl.ReadSegment(impl.SegmentText(got, src, dst), src, dst); again != got || !read {
		t.Errorf("ReadSegment of %d bytes %.60q = %s, which is %s, %v if it is read again", len(s), s, segmentShown(got), segmentShown(again), read)
	}
	return true
}

// checkSegmentIs checks that reading s returns g.
func checkSegmentIs(t *testing.T, s string, src, dst int, g impl.Segment) {
	t.Helper()
	checkSegmentRead(t, s, src, dst)
	if got, ok := impl.ReadSegment(s, src, dst); got != g || !ok {
		t.Errorf("ReadSegment of %d bytes %.60q from %d to %d = %s, %v, want %s", len(s), s, src, dst, segmentShown(got), ok, segmentShown(g))
	}
}

// checkNoSegment checks that s is not read.
func checkNoSegment(t *testing.T, s string, src, dst int) {
	t.Helper()
	checkSegmentRead(t, s, src, dst)
	if got, ok := impl.ReadSegment(s, src, dst); got != (impl.Segment{}) || ok {
		t.Errorf("ReadSegment of %d bytes %.60q from %d to %d = %s, %v, want the zero Segment and false", len(s), s, src, dst, segmentShown(got), ok)
	}
}

// segmentWith returns the text of a segment with the header length head and the
// options as they are, with the right checksum.
func segmentWith(head int, options string, body string) string {
	return sealedSegment("\x01\x02\x03\x04\x05\x06\x07\x08\x09\x0a\x0b\x0c"+wideBytes(head/4*16, 1)+"\x12\x0e\x0f\x00\x00\x00\x00"+options+body, fromIp, toIp)
}

// plainSegment is the segment of segmentWith.
func plainSegment(opts impl.Options, body string) impl.Segment {
	return impl.Segment{From: 0x0102, To: 0x0304, Seq: 0x05060708, Ack: 0x090a0b0c, Flags: 0x12, Window: 0x0e0f, Opts: opts, Body: body}
}

func TestSegmentConstants(t *testing.T) {
	if impl.FlFin != 1 || impl.FlSyn != 2 || impl.FlRst != 4 || impl.FlPsh != 8 || impl.FlAck != 16 {
		t.Error("a constant of the segments differs from the document")
	}
}

func TestSegmentOkOfEachField(t *testing.T) {
	for _, c := range []struct {
		n                   int
		port, number, flags bool
	}{
		{math.MinInt, false, false, false}, {math.MinInt + 1, false, false, false}, {-4294967296, false, false, false}, {-65536, false, false, false}, {-64, false, false, false}, {-1, false, false, false},
		{0, true, true, true}, {1, true, true, true}, {2, true, true, true}, {32, true, true, true}, {62, true, true, true}, {63, true, true, true},
		{64, true, true, false}, {65, true, true, false}, {255, true, true, false}, {256, true, true, false}, {65534, true, true, false}, {65535, true, true, false},
		{65536, false, true, false}, {65537, false, true, false}, {2147483648, false, true, false}, {4294967294, false, true, false}, {4294967295, false, true, false},
		{4294967296, false, false, false}, {4294967297, false, false, false}, {math.MaxInt - 1, false, false, false}, {math.MaxInt, false, false, false},
	} {
		for _, opts := range []impl.Options{noOptions, {}, allOptions} {
			for i, want := range []bool{c.port, c.port, c.number, c.number, c.flags, c.port} {
				g := impl.Segment{From: 5, To: 6, Seq: 7, Ack: 8, Flags: 9, Window: 10, Opts: opts, Body: "hi"}
				segmentSetters[i](&g, c.n)
				if got := impl.SegmentOk(g); got != want {
					t.Errorf("SegmentOk(%s) = %v", segmentShown(g), got)
				}
				if text := impl.SegmentText(g, fromIp, toIp); (text != "") != want {
					t.Errorf("SegmentText(%s) = %q", segmentShown(g), text)
				}
				checkSegment(t, g, fromIp, toIp)
			}
		}
	}
	if !impl.SegmentOk(impl.Segment{}) || len(impl.SegmentText(impl.Segment{}, 0, 0)) != 24 {
		t.Error("SegmentOk of the zero Segment, which has the window scale 0")
	}
}

func TestSegmentOkOfEachFlags(t *testing.T) {
	for n := -3000; n < 3000; n++ {
		g := impl.Segment{From: 5, To: 6, Seq: 7, Ack: 8, Flags: n, Window: 10, Opts: noOptions}
		if got := impl.SegmentOk(g); got != (n >= 0 && n <= 63) {
			t.Errorf("SegmentOk with the Flags %d is %v", n, got)
		}
		checkSegment(t, g, fromIp, toIp)
	}
}

func TestSegmentOkOfEachOptions(t *testing.T) {
	optionsOfFields(func(o impl.Options) {
		g := impl.Segment{From: 5, To: 6, Seq: 7, Ack: 8, Flags: 9, Window: 10, Opts: o, Body: "odd"}
		if got := impl.SegmentOk(g); got != impl.OptionsOk(o) {
			t.Errorf("SegmentOk(%s) = %v", segmentShown(g), got)
		}
		checkSegment(t, g, fromIp, toIp)
	})
	for _, o := range []impl.Options{{Mss: -1}, {Mss: 65536}, {Scale: -2}, {Scale: 15}, {Val: 1}, {Echo: 1}, {Stamp: true, Val: -1}, {Stamp: true, Echo: mostIp + 1}, {Mss: math.MaxInt}, {Scale: math.MinInt}, {Val: math.MinInt}} {
		g := impl.Segment{Opts: o}
		if impl.SegmentOk(g) || impl.SegmentText(g, fromIp, toIp) != "" {
			t.Errorf("SegmentOk(%s) is true", segmentShown(g))
		}
	}
}

func TestSegmentOkOfEachBody(t *testing.T) {
	for n := range 1600 {
		for i, opts := range []impl.Options{noOptions, allOptions} {
			g := impl.Segment{From: 5, To: 6, Seq: 7, Ack: 8, Flags: 9, Window: 10, Opts: opts, Body: strings.Repeat("a", n)}
			want := n <= 1420
			if got := impl.SegmentOk(g); got != want {
				t.Errorf("SegmentOk with a body of %d bytes is %v", n, got)
			}
			if text := impl.SegmentText(g, fromIp, toIp); want && len(text) != 20+20*i+n || !want && text != "" {
				t.Errorf("SegmentText with a body of %d bytes has %d bytes", n, len(text))
			}
		}
	}
	for _, body := range segmentBodies() {
		for _, opts := range []impl.Options{noOptions, allOptions, {Mss: 1460, Scale: -1, Sack: true}, {Mss: -1}} {
			checkSegment(t, impl.Segment{From: 65535, Seq: mostIp, Flags: 63, Opts: opts, Body: body}, mostIp, 1)
		}
	}
}

func TestSegmentText(t *testing.T) {
	const plain = "\x01\x02\x03\x04\x05\x06\x07\x08\x09\x0a\x0b\x0c"
	long := strings.Repeat("\xff", 1420)
	fields := impl.Segment{From: 0x0102, To: 0x0304, Seq: 0x05060708, Ack: 0x090a0b0c, Flags: 0x0d, Window: 0x0e0f, Opts: noOptions}
	odd, scaled := fields, fields
	odd.Body, scaled.Opts = "\x18", impl.Options{}
	for _, c := range []struct {
		g        impl.Segment
		src, dst int
		want     string
	}{
		{impl.Segment{Opts: noOptions}, 0, 0, strings.Repeat("\x00", 12) + "\x50\x00\x00\x00\xaf\xe5\x00\x00"},
		{fields, 0x10111213, 0x14151617, plain + "\x50\x0d\x0e\x0f\x31\x4f\x00\x00"},
		{odd, 0x10111213, 0x14151617, plain + "\x50\x0d\x0e\x0f\x19\x4e\x00\x00\x18"},
		{scaled, 0x10111213, 0x14151617, plain + "\x60\x0d\x0e\x0f\x1e\x47\x00\x00\x03\x03\x00\x01"},
		{impl.Segment{From: 40000, To: 80, Seq: 7, Ack: 258, Flags: impl.FlSyn | impl.FlAck, Window: 512, Opts: impl.Options{Mss: 536, Scale: -1}, Body: "hi"}, 1, 2,
			"\x9c\x40\x00\x50\x00\x00\x00\x07\x00\x00\x01\x02\x60\x12\x02\x00\x93\xab\x00\x00\x02\x04\x02\x18hi"},
		{impl.Segment{From: 443, To: 50000, Seq: 1, Ack: 2, Flags: impl.FlAck, Window: 1000, Opts: impl.Options{Scale: -1, Stamp: true, Val: 5, Echo: 6}, Body: "abc"}, 0xc0a80001, 0xc0a800c7,
			"\x01\xbb\xc3\x50\x00\x00\x00\x01\x00\x00\x00\x02\x80\x10\x03\xe8\x67\x3d\x00\x00\x08\x0a\x00\x00\x00\x05\x00\x00\x00\x06\x01\x01abc"},
		{impl.Segment{From: 65535, To: 65535, Seq: mostIp, Ack: mostIp, Flags: 63, Window: 65535, Opts: impl.Options{Mss: 65535, Scale: 14, Sack: true, Stamp: true, Val: mostIp, Echo: mostIp}, Body: long}, mostIp, mostIp,
			strings.Repeat("\xff", 12) + "\xa0\x3f\xff\xff\x3a\xf2\x00\x00\x02\x04\xff\xff\x03\x03\x0e\x04\x02\x08\x0a\xff\xff\xff\xff\xff\xff\xff\xff\x01" + long},
		{fields, -1, 1, ""}, {fields, 1, -1, ""}, {fields, mostIp + 1, 1, ""}, {fields, 1, mostIp + 1, ""}, {fields, math.MinInt, math.MaxInt, ""},
		{impl.Segment{From: -1}, 1, 2, ""}, {impl.Segment{From: 65536}, 1, 2, ""}, {impl.Segment{To: -1}, 1, 2, ""}, {impl.Segment{To: 65536}, 1, 2, ""},
		{impl.Segment{Seq: -1}, 1, 2, ""}, {impl.Segment{Seq: mostIp + 1}, 1, 2, ""}, {impl.Segment{Ack: -1}, 1, 2, ""}, {impl.Segment{Ack: mostIp + 1}, 1, 2, ""},
		{impl.Segment{Flags: -1}, 1, 2, ""}, {impl.Segment{Flags: 64}, 1, 2, ""}, {impl.Segment{Window: -1}, 1, 2, ""}, {impl.Segment{Window: 65536}, 1, 2, ""},
		{impl.Segment{Opts: impl.Options{Scale: 15}}, 1, 2, ""}, {impl.Segment{Opts: impl.Options{Val: 1}}, 1, 2, ""}, {impl.Segment{Body: long + "a"}, 1, 2, ""},
	} {
		if got := impl.SegmentText(c.g, c.src, c.dst); got != c.want {
			t.Errorf("SegmentText(%s, %d, %d) = %q, want %q", segmentShown(c.g), c.src, c.dst, got, c.want)
		}
	}
}

// The checksum may be any word but 65535: that is the checksum of zeros alone,
// and the pseudo-header has a 6.
func TestSegmentTextOfEachChecksum(t *testing.T) {
	found := map[int]bool{}
	for n := range 65536 {
		g := impl.Segment{From: 7, To: 8, Seq: 9, Ack: 10, Window: n, Opts: noOptions}
		s := impl.SegmentText(g, fromIp, toIp)
		if len(s) != 20 || s != sealedSegment(s, fromIp, toIp) {
			t.Fatalf("the segment with the Window %d has the text %q", n, s)
		}
		checkSegmentIs(t, s, fromIp, toIp, g)
		found[int(s[16])<<8|int(s[17])] = true
	}
	if len(found) != 65535 || found[65535] {
		t.Errorf("segments with all Windows have %d checksums", len(found))
	}
}

func TestSegmentsRoundTrip(t *testing.T) {
	for _, n := range segmentNumbers {
		for _, m := range segmentNumbers {
			for i := range segmentSetters {
				for j := i; j < len(segmentSetters); j++ {
					g := impl.Segment{From: 40000, To: 80, Seq: 258, Ack: 1 << 20, Flags: 24, Window: 512, Opts: noOptions, Body: "text"}
					segmentSetters[j](&g, m)
					segmentSetters[i](&g, n)
					checkSegment(t, g, fromIp, toIp)
				}
			}
		}
	}
	for i := range 5000 {
		src, dst := someInt(2*i)&mostIp, someInt(2*i+1)&mostIp
		checkSegment(t, someSegment(i, i%90), src, dst)
		checkSegment(t, someSegment(i, i*7%1430), src, dst)
		checkSegment(t, impl.Segment{From: someInt(7 * i), To: someInt(7*i + 1), Seq: someInt(7*i + 2), Ack: someInt(7*i + 3), Flags: someInt(7*i + 4), Window: someInt(7*i + 5), Opts: someOptions(i)}, src, dst)
		checkSegment(t, someSegment(i, i%50), someInt(3*i), someInt(3*i+1))
	}
}

func TestSegmentsOfEachAddress(t *testing.T) {
	for _, src := range segmentIps {
		for _, dst := range segmentIps {
			for i, g := range []impl.Segment{{}, plainSegment(allOptions, "body"), plainSegment(noOptions, ""), someSegment(src&7, 33), {From: -1}} {
				checkSegment(t, g, src, dst)
				if text := impl.SegmentText(g, src, dst); (text != "") != (i < 4 && src >= 0 && src <= 4294967295 && dst >= 0 && dst <= 4294967295) {
					t.Errorf("SegmentText(%s, %d, %d) = %q", segmentShown(g), src, dst, text)
				}
				if i < 4 {
					// The checksum is right for the lowest four bytes of the addresses.
					checkSegmentRead(t, segmentBytes(g, src, dst), src, dst)
				}
			}
		}
	}
	s := segmentWith(20, "", "hi")
	// A checksum that is right without a pseudo-header, which is what there is
	// between addresses that do not fit.
	empty := replaced(s, 16, "\x00\x00")
	bare := replaced(s, 16, wideBytes(65535-remainder(sumOfWords(empty)), 2))
	for _, bad := range []int{math.MinInt, -1 << 32, -1<<32 + fromIp, -1, mostIp + 1, 1<<32 + fromIp, 1<<48 + fromIp, 1 << 62, math.MaxInt} {
		for _, pair := range [][2]int{{bad, toIp}, {fromIp, bad}, {bad, bad}} {
			checkNoSegment(t, s, pair[0], pair[1])
			checkNoSegment(t, sealedSegment(s, pair[0], pair[1]), pair[0], pair[1])
			checkNoSegment(t, bare, pair[0], pair[1])
		}
	}
	checkNoSegment(t, bare, fromIp, toIp)
	checkNoSegment(t, bare, 0, 0)
}

// A segment is read between its own addresses only, as far as the checksum, which
// is a sum modulo 65535, tells addresses apart.
func TestReadSegmentBetweenOtherAddresses(t *testing.T) {
	for seed := range 30 {
		src, dst := someInt(2*seed)&mostIp, someInt(2*seed+1)&mostIp
		g := someSegment(seed, seed*3)
		s := impl.SegmentText(g, src, dst)
		checkSegmentIs(t, s, src, dst, g)
		for bit := range 32 {
			checkNoSegment(t, s, src^1<<bit, dst)
			checkNoSegment(t, s, src, dst^1<<bit)
		}
		for bit := 32; bit < 63; bit++ {
			checkNoSegment(t, s, src|1<<bit, dst)
			checkNoSegment(t, s, src, dst|1<<bit)
		}
		for d := 1; d < 3000; d++ {
			// Beyond an end there is no address, and no wraparound: the checksum
			// would not tell 0 and the greatest address apart.
			checkNoSegment(t, s, src+d, dst)
			checkNoSegment(t, s, src, dst-d)
		}
		for _, other := range segmentIps {
			checkSegmentRead(t, s, other, dst)
			checkSegmentRead(t, s, src, other)
			checkSegmentRead(t, s, other, other)
		}
	}
	s, g := segmentWith(20, "", "hi"), plainSegment(noOptions, "hi")
	checkSegmentIs(t, s, toIp, fromIp, g)
	checkSegmentIs(t, s, fromIp+65535, toIp, g)
	checkSegmentIs(t, s, fromIp+1, toIp-1, g)
	checkNoSegment(t, s, fromIp+65536, toIp)
	checkNoSegment(t, s, fromIp+1, toIp+1)
	checkNoSegment(t, s, 0, 0)
}

func TestReadSegment(t *testing.T) {
	const plain = "\x01\x02\x03\x04\x05\x06\x07\x08\x09\x0a\x0b\x0c"
	fields := impl.Segment{From: 0x0102, To: 0x0304, Seq: 0x05060708, Ack: 0x090a0b0c, Flags: 0x0d, Window: 0x0e0f, Opts: noOptions}
	odd, scaled := fields, fields
	odd.Body, scaled.Opts = "\x18", impl.Options{}
	for _, c := range []struct {
		text string
		want impl.Segment
	}{
		{plain + "\x50\x0d\x0e\x0f\x31\x4f\x00\x00", fields}, {plain + "\x50\x0d\x0e\x0f\x19\x4e\x00\x00\x18", odd}, {plain + "\x60\x0d\x0e\x0f\x1e\x47\x00\x00\x03\x03\x00\x01", scaled},
		// Other bits beside the header length and the flags, and the last two bytes, are ignored.
		{plain + "\x5f\x0d\x0e\x0f\x22\x4f\x00\x00", fields}, {plain + "\x50\xcd\x0e\x0f\x30\x8f\x00\x00", fields}, {plain + "\x50\x0d\x0e\x0f\x30\x4f\x01\x00", fields},
	} {
		if got, ok := impl.ReadSegment(c.text, 0x10111213, 0x14151617); got != c.want || !ok {
			t.Errorf("ReadSegment(%q) = %s, %v, want %s", c.text, segmentShown(got), ok, segmentShown(c.want))
		}
	}
	for _, s := range []string{
		"", "\x50", plain, plain + "\x50\x0d\x0e\x0f\x31\x4f\x00", plain + "\x50\x0d\x0e\x0f\x31\x50\x00\x00", plain + "\x50\x0d\x0e\x0f\x31\x4f\x00\x00\x00", "\x00" + plain + "\x50\x0d\x0e\x0f\x31\x4f\x00\x00",
		plain + "\x40\x0d\x0e\x0f\x41\x4f\x00\x00", plain + "\x00\x0d\x0e\x0f\x81\x4f\x00\x00", plain + "\x60\x0d\x0e\x0f\x21\x4f\x00\x00", plain + "\xf0\x0d\x0e\x0f\x91\x4e\x00\x00",
		strings.Repeat("\x00", 20), strings.Repeat("\xff", 20), strings.Repeat("P", 20), strings.Repeat("\x00", 70000),
	} {
		if got, ok := impl.ReadSegment(s, 0x10111213, 0x14151617); got != (impl.Segment{}) || ok {
			t.Errorf("ReadSegment(%.60q) = %s, %v, want the zero Segment and false", s, segmentShown(got), ok)
		}
	}
}

func TestReadSegmentOfEachLength(t *testing.T) {
	for i := range 64 {
		g := someSegment(i, 30)
		s := impl.SegmentText(g, fromIp, toIp)
		head := len(s) - 30
		for n := range len(s) {
			if text := sealedSegment(s[:n], fromIp, toIp); n < head {
				checkNoSegment(t, text, fromIp, toIp)
			} else {
				want := g
				want.Body = g.Body[:n-head]
				checkSegmentIs(t, text, fromIp, toIp, want)
			}
		}
		// The whole text is the segment: unlike in a packet, further bytes belong to it.
		for n := 1; n < 100; n++ {
			checkNoSegment(t, s+strings.Repeat("\x00", n), fromIp, toIp)
			checkSegmentRead(t, s+someBytes(n, i), fromIp, toIp)
			want := g
			want.Body += someBytes(n, i)
			checkSegmentIs(t, sealedSegment(s+someBytes(n, i), fromIp, toIp), fromIp, toIp, want)
		}
	}
	for n := range 200 {
		for _, s := range []string{someBytes(n, n), strings.Repeat("\x00", n), strings.Repeat("\xff", n), strings.Repeat("P", n), strings.Repeat("`", n)} {
			checkSegmentRead(t, s, fromIp, toIp)
			checkSegmentRead(t, sealedSegment(s, fromIp, toIp), fromIp, toIp)
		}
	}
}

// Each header length in texts that are shorter than it, of its length, and
// longer, with bits beside it.
func TestReadSegmentOfEachHeaderLength(t *testing.T) {
	for words := range 16 {
		for size := range 90 {
			for _, low := range []int{0, 1, 15} {
				for _, fill := range []string{"\x00", "\x01"} {
					head := 4 * words
					s := segmentWith(20, "", strings.Repeat(fill, 70))[:size]
					if size > 12 {
						s = replaced(s, 12, wideBytes(words*16+low, 1))
					}
					s = sealedSegment(s, fromIp, toIp)
					if size < 20 || head < 20 || head > size {
						checkNoSegment(t, s, fromIp, toIp)
					} else {
						checkSegmentIs(t, s, fromIp, toIp, plainSegment(noOptions, strings.Repeat(fill, size-head)))
					}
				}
			}
		}
	}
}

// A header length that is too large is rejected where the text ends just before
// it, whatever the options are.
func TestReadSegmentOfTooLargeHeaderLengths(t *testing.T) {
	for i := range 64 {
		g := someSegment(i, 0)
		s := impl.SegmentText(g, fromIp, toIp)
		for words := len(s)/4 + 1; words < 16; words++ {
			text := sealedSegment(replaced(s, 12, wideBytes(words*16, 1)), fromIp, toIp)
			checkNoSegment(t, text, fromIp, toIp)
			missing := 4*words - len(s)
			checkNoSegment(t, sealedSegment(text+strings.Repeat("\x01", missing-1), fromIp, toIp), fromIp, toIp)
			checkSegmentIs(t, sealedSegment(text+strings.Repeat("\x01", missing), fromIp, toIp), fromIp, toIp, g)
			want := g
			want.Body = "\x01"
			checkSegmentIs(t, sealedSegment(text+strings.Repeat("\x01", missing+1), fromIp, toIp), fromIp, toIp, want)
		}
		for words := range 5 {
			checkNoSegment(t, sealedSegment(replaced(s, 12, wideBytes(words*16, 1)), fromIp, toIp), fromIp, toIp)
		}
	}
}

// With each header length, the body may have 1420 bytes, but not one more.
func TestReadSegmentOfEachBodyLength(t *testing.T) {
	for head := 20; head <= 60; head += 4 {
		options := strings.Repeat("\x01", head-20)
		for _, n := range []int{0, 1, 2, 1400, 1418, 1419, 1420} {
			body := someBytes(n, head)
			checkSegmentIs(t, segmentWith(head, options, body), fromIp, toIp, plainSegment(noOptions, body))
		}
		for _, size := range []int{head + 1421, head + 1422, head + 1480, head + 1500, 65534, 65535, 65536, 65537, 65536 + head, 65536 + head + 5, 140000} {
			checkNoSegment(t, segmentWith(head, options, someBytes(size-head, head)), fromIp, toIp)
		}
	}
}

// With the checksum made right, all values of all bytes but the header length
// are read, and change their own field only.
func TestReadSegmentOfEachByte(t *testing.T) {
	s := segmentWith(20, "", "some body")
	for head := range 256 {
		for flags := range 256 {
			text := sealedSegment(replaced(s, 12, string([]byte{byte(head), byte(flags)})), fromIp, toIp)
			if head>>4 != 5 {
				checkSegmentRead(t, text, fromIp, toIp)
				continue
			}
			want := plainSegment(noOptions, "some body")
			want.Flags = flags & 63
			if got, ok := impl.ReadSegment(text, fromIp, toIp); got != want || !ok {
				t.Errorf("ReadSegment with the bytes %d and %d = %s, %v", head, flags, segmentShown(got), ok)
			}
		}
	}
	for n := range 65536 {
		if got, ok := impl.ReadSegment(sealedSegment(replaced(s, 18, wideBytes(n, 2)), fromIp, toIp), fromIp, toIp); got != plainSegment(noOptions, "some body") || !ok {
			t.Errorf("ReadSegment with %d in its last two bytes = %s, %v", n, segmentShown(got), ok)
		}
	}
	for at := range len(s) {
		for c := range 256 {
			text := sealedSegment(replaced(s, at, string([]byte{byte(c)})), fromIp, toIp)
			if at == 12 {
				checkSegmentRead(t, text, fromIp, toIp)
			} else if !checkSegmentRead(t, text, fromIp, toIp) {
				t.Errorf("ReadSegment with the byte %d at %d is false", c, at)
			}
		}
	}
}

func TestReadSegmentOfOptions(t *testing.T) {
	for _, c := range []struct {
		options string
		want    impl.Options
	}{
		{"", noOptions}, {"\x00\x00\x00\x00", noOptions}, {"\x01\x01\x01\x01", noOptions}, {"\x00\x02\x01\x03", noOptions}, {"\x02\x04\x01\x02", impl.Options{Mss: 258, Scale: -1}},
		{"\x03\x03\xff\x00", impl.Options{Scale: 14}}, {"\x04\x02\x00\xff", impl.Options{Scale: -1, Sack: true}}, {"\x05\x04\x02\x04", noOptions}, {"\x02\x04\x00\x01\x02\x04\x00\x02", impl.Options{Mss: 2, Scale: -1}},
		{option(5, strings.Repeat("\x02", 38)), noOptions}, {strings.Repeat("\x01", 40), noOptions}, {strings.Repeat("\x01", 37) + "\x03\x03\x05", impl.Options{Scale: 5}},
		{optionBytes(allOptions) + optionBytes(allOptions), allOptions}, {optionBytes(allOptions) + strings.Repeat("\x00", 20), allOptions},
		{"\x01\x01" + stampOption(1, 2) + sackOption() + scaleOption(15) + mssOption(9) + "\x00\x02\x01", impl.Options{Mss: 9, Scale: 14, Sack: true, Stamp: true, Val: 1, Echo: 2}},
	} {
		// What is in the body is no option.
		for _, body := range []string{"", "a", "\x02\x04\x07\x08", "\x02\x01", optionBytes(allOptions)} {
			checkSegmentIs(t, segmentWith(20+len(c.options), c.options, body), fromIp, toIp, plainSegment(c.want, body))
		}
	}
	for i := range 3000 {
		o := someOptions(i)
		options := optionBytes(o)
		options += strings.Repeat("\x01", 4*(i%6))
		body := someBytes(i%9, i)
		checkSegmentIs(t, segmentWith(20+len(options), options, body), fromIp, toIp, plainSegment(o, body))
	}
}

// Options that cannot be read make a segment invalid, also where the bytes that
// they lack are in the body.
func TestReadSegmentOfBrokenOptions(t *testing.T) {
	count := 0
	for _, end := range brokenOptions() {
		for size := 4; size <= 40; size += 4 {
			if len(end) > size {
				continue
			}
			options := strings.Repeat("\x01", size-len(end)) + end
			for _, body := range []string{"", "\x01", strings.Repeat("\x00", 300), strings.Repeat("\x02", 1420), optionBytes(allOptions)} {
				count++
				checkNoSegment(t, segmentWith(20+size, options, body), fromIp, toIp)
			}
			if size > len(end) {
				checkSegmentIs(t, segmentWith(20+size, strings.Repeat("\x01", size-len(end)-1)+"\x00"+end, "a"), fromIp, toIp, plainSegment(noOptions, "a"))
			}
		}
	}
	if count < 1000 {
		t.Errorf("there are only %d texts", count)
	}
	for i := range 20000 {
		options := someBytes(4*(i%11), i)
		checkSegmentRead(t, segmentWith(20+len(options), options, someBytes(i%7, i)), fromIp, toIp)
	}
}

// A text with one changed byte, in the checksum or anywhere else, is rejected.
func TestReadSegmentRejectsChangedBytes(t *testing.T) {
	list := []impl.Segment{{}, {Opts: noOptions}, plainSegment(allOptions, ""), plainSegment(noOptions, "hi"), plainSegment(noOptions, "odd"), {From: 65535, To: 65535, Seq: mostIp, Ack: mostIp, Flags: 63, Window: 65535, Body: strings.Repeat("\xff", 51)}}
	for i := range 10 {
		list = append(list, someSegment(i, 3*i))
	}
	for i, g := range list {
		src, dst := someInt(2*i)&mostIp, someInt(2*i+1)&mostIp
		s := impl.SegmentText(g, src, dst)
		checkSegmentIs(t, s, src, dst, g)
		for at := range len(s) {
			for d := 1; d < 256; d++ {
				checkNoSegment(t, replaced(s, at, string([]byte{s[at] + byte(d)})), src, dst)
			}
			checkNoSegment(t, s[:at]+s[at+1:], src, dst)
		}
	}
	long := impl.SegmentText(someSegment(5, 1420), fromIp, toIp)
	for at := range len(long) {
		for bit := range 8 {
			checkNoSegment(t, replaced(long, at, string([]byte{long[at] ^ 1<<bit})), fromIp, toIp)
		}
	}
}

// The checksum is the only word that is right, except that 65535 is right as
// well where it is 0.
func TestReadSegmentOfEachChecksum(t *testing.T) {
	g := plainSegment(impl.Options{Mss: 1460, Scale: 7}, "odd")
	s := impl.SegmentText(g, fromIp, toIp)
	for range 2 {
		right := int(s[16])<<8 | int(s[17])
		for n := range 65536 {
			text := replaced(s, 16, wideBytes(n, 2))
			if n == right || right == 0 && n == 65535 {
				checkSegmentIs(t, text, fromIp, toIp, g)
			} else if got, ok := impl.ReadSegment(text, fromIp, toIp); got != (impl.Segment{}) || ok {
				t.Errorf("ReadSegment(%q) = %s, %v", text, segmentShown(got), ok)
			}
		}
		// The second time, the checksum is 0.
		g.From += right
		for g.From > 65535 {
			g.From -= 65535
		}
		s = impl.SegmentText(g, fromIp, toIp)
		if s[16:18] != "\x00\x00" {
			t.Fatalf("SegmentText(%s) = %q", segmentShown(g), s)
		}
	}
}

func TestReadSegmentOfOddLengths(t *testing.T) {
	for n := range 200 {
		g := plainSegment(someOptions(n), someBytes(2*n+1, n))
		s := impl.SegmentText(g, fromIp, toIp)
		if len(s)%2 != 1 || s != segmentBytes(g, fromIp, toIp) {
			t.Errorf("SegmentText(%s) = %q", segmentShown(g), s)
		}
		checkSegmentIs(t, s, fromIp, toIp, g)
		checkNoSegment(t, s+"\x00", fromIp, toIp)
		checkNoSegment(t, replaced(s, len(s)-1, string([]byte{s[len(s)-1] ^ 1})), fromIp, toIp)
	}
}

func TestSegmentLen(t *testing.T) {
	for flags := range 64 {
		for _, n := range []int{0, 1, 7, 1420, 1421, 70000} {
			want := n + flags&1 + flags>>1&1
			for _, opts := range []impl.Options{{}, allOptions} {
				g := impl.Segment{From: 1, To: 2, Seq: 3, Ack: 4, Flags: flags, Window: 5, Opts: opts, Body: strings.Repeat("a", n)}
				if got := impl.SegmentLen(g); got != want {
					t.Errorf("SegmentLen(%s) = %d, want %d", segmentShown(g), got, want)
				}
			}
		}
	}
	for _, c := range []struct{ flags, want int }{
		{impl.FlSyn, 1}, {impl.FlFin, 1}, {impl.FlSyn | impl.FlFin, 2}, {impl.FlRst | impl.FlPsh | impl.FlAck | 32, 0}, {-1, 2}, {-2, 1}, {-3, 1}, {-4, 0}, {64, 0}, {64 + 1, 1}, {64 + 2, 1}, {64 + 3, 2},
		{math.MinInt, 0}, {math.MinInt + 1, 1}, {math.MinInt + 3, 2}, {math.MaxInt, 2}, {math.MaxInt - 1, 1}, {1 << 62, 0},
	} {
		for _, body := range []string{"", "\x00", "seven b"} {
			if got := impl.SegmentLen(impl.Segment{Flags: c.flags, Body: body}); got != c.want+len(body) {
				t.Errorf("SegmentLen with the Flags %d and %d bytes is %d", c.flags, len(body), got)
			}
		}
	}
}

// hasBits tells whether each bit of flag is one of flags, bit by bit.
func hasBits(flags, flag int) bool {
	for bit := range 64 {
		if flag>>bit&1 == 1 && flags>>bit&1 == 0 {
			return false
		}
	}
	return true
}

func TestHas(t *testing.T) {
	for _, c := range []struct {
		flags, flag int
		want        bool
	}{
		{0, 0, true}, {63, 0, true}, {-1, 0, true}, {0, -1, false}, {63, -1, false}, {-1, -1, true}, {0, impl.FlFin, false}, {impl.FlFin, impl.FlFin, true}, {impl.FlSyn, impl.FlFin, false},
		{impl.FlSyn | impl.FlAck, impl.FlSyn, true}, {impl.FlSyn | impl.FlAck, impl.FlSyn | impl.FlAck, true}, {impl.FlSyn, impl.FlSyn | impl.FlAck, false}, {impl.FlAck, impl.FlSyn | impl.FlAck, false},
		{impl.FlRst, impl.FlPsh, false}, {63, 64, false}, {64, 64, true}, {63, 63, true}, {62, 63, false}, {63, 32, true}, {31, 32, false}, {math.MinInt, math.MinInt, true}, {math.MaxInt, math.MinInt, false}, {63, 1<<32 + 1, false},
	} {
		if got := impl.Has(impl.Segment{From: 1, Flags: c.flags, Body: "a"}, c.flag); got != c.want {
			t.Errorf("Has with the Flags %d of %d is %v", c.flags, c.flag, got)
		}
	}
	list := append([]int{}, farInts...)
	for n := range 64 {
		list = append(list, n)
	}
	for _, flags := range list {
		for _, flag := range list {
			if got := impl.Has(impl.Segment{Flags: flags}, flag); got != hasBits(flags, flag) {
				t.Errorf("Has with the Flags %d of %d is %v", flags, flag, got)
			}
		}
	}
}

// Every function returns, and returns the same again, whatever it is given.
func TestSegmentIsTotal(t *testing.T) {
	defer func() {
		if r := recover(); r != nil {
			t.Fatalf("panic: %v", r)
		}
	}()
	for _, x := range farInts {
		for _, y := range farInts {
			for _, g := range []impl.Segment{
				{From: x, To: y, Seq: x, Ack: y, Flags: x, Window: y, Opts: impl.Options{Mss: x, Scale: y, Stamp: true, Val: x, Echo: y}, Body: "a"}, {From: x, To: y, Opts: noOptions}, {Seq: x, Ack: y, Opts: noOptions},
				{Flags: x, Window: y, Body: someBytes(1421, 2)}, {Flags: x, Window: y}, {From: x, Opts: impl.Options{Mss: y}}, {Seq: x, Opts: impl.Options{Scale: y}}, {Ack: x, Opts: impl.Options{Val: y}},
			} {
				checkSegment(t, g, 1, 2)
				checkSegment(t, g, x, y)
				if impl.SegmentText(g, x, y) != impl.SegmentText(g, x, y) || impl.SegmentLen(g) < len(g.Body) || impl.SegmentLen(g) > len(g.Body)+2 || impl.Has(g, y) != impl.Has(g, y) {
					t.Errorf("%s has different results", segmentShown(g))
				}
			}
			for _, s := range []string{"", "\x00", segmentWith(20, "", ""), segmentWith(60, "", "short"), someBytes(1421, 3)} {
				checkSegmentRead(t, s, x, y)
				checkSegmentRead(t, sealedSegment(s, x, y), x, y)
			}
		}
	}
	for i := range 20000 {
		s := someBytes(i%100, i)
		src, dst := someInt(2*i)&mostIp, someInt(2*i+1)&mostIp
		checkSegmentRead(t, s, src, dst)
		checkSegmentRead(t, sealedSegment(s, src, dst), src, dst)
		if len(s) >= 20 {
			text := sealedSegment(replaced(s, 12, wideBytes(80+16*(i%4), 1)), src, dst)
			checkSegmentRead(t, text, src, dst)
			got, ok := impl.ReadSegment(text, src, dst)
			if again, same := impl.ReadSegment(text, src, dst); got != again || ok != same {
				t.Errorf("ReadSegment(%q) = %s, %v, and then %s, %v", text, segmentShown(got), ok, segmentShown(again), same)
			}
		}
	}
}

// Reading a part of a string reads and changes nothing outside of it.
func TestSegmentArgumentsUnchanged(t *testing.T) {
	text := impl.SegmentText(plainSegment(allOptions, "some body"), fromIp, toIp)
	whole := text + text + text
	kept := strings.Clone(whole)
	for from := range len(whole) {
		for to := from; to <= len(whole); to++ {
			got, ok := impl.ReadSegment(whole[from:to], fromIp, toIp)
			want, read := impl.ReadSegment(strings.Clone(kept[from:to]), fromIp, toIp)
			if got != want || ok != read || from%len(text) == 0 && to-from == len(text) && !ok {
				t.Errorf("ReadSegment of %d to %d = %s, %v", from, to, segmentShown(got), ok)
			}
		}
	}
	g, _ := impl.ReadSegment(text, fromIp, toIp)
	before := g
	if impl.SegmentText(g, fromIp, toIp) != text || !impl.SegmentOk(g) || impl.SegmentLen(g) != 10 || !impl.Has(g, impl.FlAck) || g != before || whole != kept {
		t.Error("an argument was changed")
	}
}
