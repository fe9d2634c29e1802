package tests

import (
	"encoding/binary"
	"math"
	"strings"
	"testing"

	"loop.example/g00504/impl"
)

// frameMacs are the numbers around both ends of the 48-bit words, and ints that
// have the lowest six bytes of one of these words.
var frameMacs = []int{
	0, 1, 2, 258, 255, 256, 65535, 1<<32 - 1, 1 << 32, 1<<40 - 1, 1 << 40, 1<<47 - 1, 1 << 47, impl.Everyone - 1, impl.Everyone,
	impl.Everyone + 1, impl.Everyone + 2, 1<<48 + 258, 1 << 49, 1<<49 - 1, 1<<56 - 1, 1 << 56, 1 << 62, math.MaxInt - 1, math.MaxInt,
	-1, -2, -258, -1 << 32, -impl.Everyone, -1 << 48, -1<<48 - 1, -1<<48 + 1, -1 << 56, math.MinInt + 1, math.MinInt,
}

var frameTypes = []int{
	math.MinInt, math.MinInt + 1536, -65536, -2048, -1536, -1, 0, 1, 2, 1500, 1534, 1535,
	1536, 1537, impl.EtIp, impl.EtArp, 2055, 32767, 32768, 65534, 65535, 65536, 65537, 65536 + 2048, 1<<32 + 2048, 1<<62 + 2048, math.MaxInt,
}

// frameBodies are bodies of the lengths at which frames change, with bytes of
// one value and of many.
func frameBodies() []string {
	var list []string
	for _, n := range []int{0, 1, 2, 13, 14, 15, 46, 1500, 1585, 1586, 1587, 1588, 1600, 1601, 65536} {
		list = append(list, someBytes(n, n), strings.Repeat("\x00", n), strings.Repeat("\xff", n))
	}
	return list
}

// isWord tells whether n has no bits but the lowest ones, without WordOk.
func isWord(n int, bits int) bool { return uint64(n)>>bits == 0 }

func validFrame(f impl.Frame) bool {
	return isWord(f.Dst, 48) && isWord(f.Src, 48) && isWord(f.Type, 16) && f.Type > 1535 && len(f.Body) < 1587
}

// frameBytes returns the fields of f, each in its number of bytes, whether it
// fits or not.
func frameBytes(f impl.Frame) string {
	return wideBytes(f.Dst, 6) + wideBytes(f.Src, 6) + wideBytes(f.Type, 2) + f.Body
}

// frameIn reads a frame as encoding/binary does.
func frameIn(s string) (impl.Frame, bool) {
	if len(s) < 14 || len(s) > 1600 || s[12] < 6 {
		return impl.Frame{}, false
	}
	dst := binary.BigEndian.Uint64([]byte("\x00\x00" + s[:6]))
	src := binary.BigEndian.Uint64([]byte("\x00\x00" + s[6:12]))
	kind := binary.BigEndian.Uint16([]byte(s[12:14]))
	return impl.Frame{Dst: int(dst), Src: int(src), Type: int(kind), Body: s[14:]}, true
}

// checkFrame checks all that is asked of the text of a frame.
func checkFrame(t *testing.T, f impl.Frame) {
	t.Helper()
	ok, want := validFrame(f), ""
	if ok {
		want = frameBytes(f)
	}
	if got := impl.FrameOk(f); got != ok {
		t.Errorf("FrameOk(%d, %d, %d, %d bytes) = %v", f.Dst, f.Src, f.Type, len(f.Body), got)
	}
	s := impl.FrameText(f)
	if s != want {
		t.Errorf("FrameText(%d, %d, %d, %d bytes) = %q, want %q", f.Dst, f.Src, f.Type, len(f.Body), s, want)
	}
	if ok {
		if got, read := impl.ReadFrame(s); got != f || !read {
			t.Errorf("ReadFrame(FrameText(%+v)) = %+v, %v", f, got, read)
		}
	}
}

// checkRead checks all that is asked of reading a text.
func checkRead(t *testing.T, s string) {
	t.Helper()
	want, known := frameIn(s)
	got, ok := impl.ReadFrame(s)
	if got != want || ok != known {
		t.Errorf("ReadFrame(%q) = %+v, %v, want %+v, %v", s, got, ok, want, known)
	}
	if ok && (!impl.FrameOk(got) || impl.FrameText(got) != s) {
		t.Errorf("FrameText(ReadFrame(%q)) = %q", s, impl.FrameText(got))
	}
}

func TestFrameConstants(t *testing.T) {
	if impl.EtIp != 0x0800 || impl.EtArp != 0x0806 || impl.MaxRaw != 1600 || impl.Everyone != 0xffffffffffff {
		t.Error("a constant of the frames differs from the document")
	}
}

func TestFrameOkOfEachField(t *testing.T) {
	for _, c := range []struct {
		n        int
		mac, typ bool
	}{
		{math.MinInt, false, false}, {-1, false, false}, {0, true, false}, {1, true, false}, {1535, true, false},
		{1536, true, true}, {2048, true, true}, {65535, true, true}, {65536, true, false},
		{281474976710654, true, false}, {281474976710655, true, false}, {281474976710656, false, false}, {math.MaxInt, false, false},
	} {
		if got := impl.FrameOk(impl.Frame{Dst: c.n, Src: 5, Type: 2048}); got != c.mac {
			t.Errorf("FrameOk with Dst %d is %v", c.n, got)
		}
		if got := impl.FrameOk(impl.Frame{Dst: 5, Src: c.n, Type: 2048}); got != c.mac {
			t.Errorf("FrameOk with Src %d is %v", c.n, got)
		}
		if got := impl.FrameOk(impl.Frame{Dst: 5, Src: 6, Type: c.n}); got != c.typ {
			t.Errorf("FrameOk with Type %d is %v", c.n, got)
		}
	}
	for n, want := range map[int]bool{0: true, 1: true, 1585: true, 1586: true, 1587: false, 1600: false, 1601: false, 70000: false} {
		if got := impl.FrameOk(impl.Frame{Dst: 5, Src: 6, Type: 2048, Body: strings.Repeat("a", n)}); got != want {
			t.Errorf("FrameOk with a body of %d bytes is %v", n, got)
		}
	}
	if impl.FrameOk(impl.Frame{}) || !impl.FrameOk(impl.Frame{Type: 1536}) {
		t.Error("FrameOk of a frame with zero fields")
	}
}

func TestFrameText(t *testing.T) {
	const everyone = "\xff\xff\xff\xff\xff\xff"
	for _, c := range []struct {
		f    impl.Frame
		want string
	}{
		{impl.Frame{Type: 1536}, "\x00\x00\x00\x00\x00\x00\x00\x00\x00\x00\x00\x00\x06\x00"},
		{impl.Frame{Dst: impl.Everyone, Src: impl.Everyone, Type: 65535, Body: "\xff"}, everyone + everyone + "\xff\xff\xff"},
		{impl.Frame{Dst: 258, Src: impl.Everyone, Type: impl.EtIp, Body: "hi"}, "\x00\x00\x00\x00\x01\x02" + everyone + "\x08\x00hi"},
		{impl.Frame{Dst: impl.Everyone, Src: 0x020304050607, Type: impl.EtArp, Body: "\x00\x01"}, everyone + "\x02\x03\x04\x05\x06\x07\x08\x06\x00\x01"},
		{impl.Frame{Dst: 281474976710654, Src: 1, Type: 1537, Body: "\x00"}, "\xff\xff\xff\xff\xff\xfe\x00\x00\x00\x00\x00\x01\x06\x01\x00"},
		{impl.Frame{Dst: 1 << 47, Src: 1 << 40, Type: 65534}, "\x80\x00\x00\x00\x00\x00\x01\x00\x00\x00\x00\x00\xff\xfe"},
		{impl.Frame{}, ""}, {impl.Frame{Type: 1535}, ""}, {impl.Frame{Type: 65536}, ""}, {impl.Frame{Type: -1}, ""},
		{impl.Frame{Dst: -1, Type: 2048}, ""}, {impl.Frame{Src: -1, Type: 2048}, ""},
		{impl.Frame{Dst: 1 << 48, Type: 2048}, ""}, {impl.Frame{Src: 1 << 48, Type: 2048}, ""},
		{impl.Frame{Type: 2048, Body: strings.Repeat("a", 1587)}, ""},
	} {
		if got := impl.FrameText(c.f); got != c.want {
			t.Errorf("FrameText(%+v) = %q, want %q", c.f, got, c.want)
		}
	}
	longest := impl.FrameText(impl.Frame{Dst: 1, Src: 2, Type: 2048, Body: strings.Repeat("a", 1586)})
	if len(longest) != impl.MaxRaw || !strings.HasSuffix(longest, "\x08\x00"+strings.Repeat("a", 1586)) {
		t.Errorf("the longest frame has %d bytes", len(longest))
	}
}

func TestFramesRoundTrip(t *testing.T) {
	for _, dst := range frameMacs {
		for _, src := range frameMacs {
			for _, typ := range frameTypes {
				checkFrame(t, impl.Frame{Dst: dst, Src: src, Type: typ, Body: "body"})
			}
		}
	}
	macs := []int{math.MinInt, -1, 0, 1, 281474976710654, 281474976710655, 281474976710656, math.MaxInt}
	types := []int{math.MinInt, -1, 0, 1535, 1536, 65535, 65536, math.MaxInt}
	for _, body := range frameBodies() {
		for _, dst := range macs {
			for _, src := range macs {
				for _, typ := range types {
					checkFrame(t, impl.Frame{Dst: dst, Src: src, Type: typ, Body: body})
				}
			}
		}
	}
	for i := range 5000 {
		checkFrame(t, impl.Frame{Dst: someInt(3 * i), Src: someInt(3*i + 1), Type: someInt(3*i + 2), Body: someBytes(i%100, i)})
		checkFrame(t, impl.Frame{Dst: someInt(3*i) & impl.Everyone, Src: someInt(3*i+1) & impl.Everyone, Type: someInt(3*i+2) & 65535, Body: someBytes(i%1700, i)})
	}
}

func TestReadFrame(t *testing.T) {
	const head = "\x00\x00\x00\x00\x01\x02\xff\xff\xff\xff\xff\xff"
	for _, c := range []struct {
		text string
		want impl.Frame
	}{
		{head + "\x08\x00", impl.Frame{Dst: 258, Src: impl.Everyone, Type: 2048}},
		{head + "\x08\x06\x00", impl.Frame{Dst: 258, Src: impl.Everyone, Type: 2054, Body: "\x00"}},
		{head + "\x06\x00\xff\x00", impl.Frame{Dst: 258, Src: impl.Everyone, Type: 1536, Body: "\xff\x00"}},
		{head + "\xff\xffa", impl.Frame{Dst: 258, Src: impl.Everyone, Type: 65535, Body: "a"}},
		{strings.Repeat("\xff", 14), impl.Frame{Dst: impl.Everyone, Src: impl.Everyone, Type: 65535}},
		{strings.Repeat("\x00", 12) + "\x06\x00\x00\x00", impl.Frame{Type: 1536, Body: "\x00\x00"}},
		{"\x80\x00\x00\x00\x00\x00\x00\x00\x00\x00\x00\x01\x07\xff\u00e9", impl.Frame{Dst: 1 << 47, Src: 1, Type: 2047, Body: "\xc3\xa9"}},
	} {
		if got, ok := impl.ReadFrame(c.text); got != c.want || !ok {
			t.Errorf("ReadFrame(%q) = %+v, %v, want %+v", c.text, got, ok, c.want)
		}
	}
	for _, s := range []string{
		"", "\x08", "\x08\x00", head, head + "\x08", head[1:] + "\x08\x00", head + "\x05\xff", head + "\x05\xffbody", head + "\x00\x00", head + "\x00\x06", head + "\x05\xdc" + strings.Repeat("a", 1500),
		strings.Repeat("\x00", 14), strings.Repeat("\x00", 1600), head + "\x08\x00" + strings.Repeat("a", 1587), strings.Repeat("\xff", 1601), strings.Repeat("\xff", 100000),
	} {
		if got, ok := impl.ReadFrame(s); got != (impl.Frame{}) || ok {
			t.Errorf("ReadFrame(%q) = %+v, %v, want the zero Frame and false", s, got, ok)
		}
	}
}

func TestReadFrameOfEachLength(t *testing.T) {
	for n := range 1700 {
		for _, s := range []string{strings.Repeat("\x00", n), strings.Repeat("\xff", n), strings.Repeat("\x06", n), someBytes(n, n)} {
			checkRead(t, s)
		}
		if _, ok := impl.ReadFrame(strings.Repeat("\xff", n)); ok != (n >= 14 && n <= 1600) {
			t.Errorf("ReadFrame of %d bytes returns %v", n, ok)
		}
	}
}

func TestReadFrameOfEachType(t *testing.T) {
	for typ := range 65536 {
		s := "\xff\x00\x01\x02\x03\x04\x00\xff\x05\x06\x07\x08" + wideBytes(typ, 2)
		checkRead(t, s)
		checkRead(t, s+"\x00\xff")
		if f, ok := impl.ReadFrame(s); ok != (typ >= 1536) || ok && f.Type != typ {
			t.Errorf("ReadFrame of type %d = %+v, %v", typ, f, ok)
		}
	}
}

// Every byte of a text counts: no two texts are read as the same frame.
func TestReadFrameOfEachByte(t *testing.T) {
	for _, s := range []string{someBytes(12, 4) + "\x08\x00" + someBytes(20, 5), strings.Repeat("\x00", 12) + "\x06\x00", strings.Repeat("\xff", 30)} {
		textOf := map[impl.Frame]string{}
		for at := range len(s) {
			for c := range 256 {
				changed := s[:at] + string([]byte{byte(c)}) + s[at+1:]
				checkRead(t, changed)
				f, ok := impl.ReadFrame(changed)
				if before, seen := textOf[f]; ok && seen && before != changed {
					t.Errorf("%q and %q are both read as %+v", before, changed, f)
				}
				textOf[f] = changed
			}
		}
	}
}

func TestForMe(t *testing.T) {
	const all48 = impl.Everyone
	for _, c := range []struct {
		dst, mac int
		want     bool
	}{
		{258, 258, true}, {258, 1, false}, {258, 259, false}, {0, 0, true}, {0, 1, false}, {1, 0, false},
		{all48, 1, true}, {all48, 0, true}, {all48, all48, true}, {all48, all48 - 1, true}, {all48, -1, true}, {all48, all48 + 1, true}, {all48, math.MaxInt, true}, {all48, math.MinInt, true},
		{1, all48, false}, {0, all48, false}, {all48 - 1, all48, false}, {all48 - 1, all48 - 1, true},
		// Neither is a 48-bit word.
		{-1, -1, true}, {-2, -2, true}, {all48 + 1, all48 + 1, true}, {math.MaxInt, math.MaxInt, true}, {math.MinInt, math.MinInt, true}, {1<<48 + 258, 1<<48 + 258, true},
		// The lowest six bytes of Dst are those of mac or of Everyone.
		{-1, 1, false}, {-1, all48, false}, {-1, 0, false}, {-1, math.MaxInt, false}, {math.MaxInt, 1, false}, {math.MaxInt, all48, false}, {1<<49 - 1, 5, false}, {1<<56 - 1, 5, false},
		{all48 + 1, 0, false}, {0, all48 + 1, false}, {1<<48 + 258, 258, false}, {258, 1<<48 + 258, false}, {1<<62 + 258, 258, false}, {math.MinInt, 0, false}, {0, math.MinInt, false}, {math.MinInt + 258, 258, false},
		{-1 << 48, 0, false}, {-1, 1<<49 - 1, false}, {-258, 258, false}, {1<<32 + 1, 1, false}, {1<<40 + 1, 1, false}, {0x010203040506, 0x060504030201, false},
	} {
		if got := impl.ForMe(impl.Frame{Dst: c.dst, Src: 7, Type: impl.EtIp, Body: "hi"}, c.mac); got != c.want {
			t.Errorf("ForMe with Dst %d and mac %d is %v", c.dst, c.mac, got)
		}
	}
}

// ForMe is about Dst alone: of a frame that is not valid as well, and not of
// who has sent it.
func TestForMeIgnoresTheRest(t *testing.T) {
	list := append(append([]int{}, frameMacs...), farInts...)
	for _, dst := range list {
		for _, mac := range list {
			want := dst == mac || dst == 281474976710655
			for _, f := range []impl.Frame{
				{Dst: dst}, {Dst: dst, Src: mac, Type: impl.EtArp}, {Dst: dst, Src: impl.Everyone, Type: impl.EtIp},
				{Dst: dst, Src: -1, Type: -1}, {Dst: dst, Src: dst, Type: mac, Body: strings.Repeat("\xff", 1700)},
			} {
				if got := impl.ForMe(f, mac); got != want {
					t.Errorf("ForMe with Dst %d, Src %d, Type %d and mac %d is %v", f.Dst, f.Src, f.Type, mac, got)
				}
			}
		}
	}
	for i := range 20000 {
		dst := someInt(i)
		for bit := range 64 {
			if mac := dst ^ 1<<bit; dst != impl.Everyone && impl.ForMe(impl.Frame{Dst: dst}, mac) || !impl.ForMe(impl.Frame{Dst: dst}, dst) {
				t.Errorf("ForMe with Dst %d and mac %d", dst, mac)
			}
		}
	}
}

// A broadcast frame that was read is for everyone, and one for a neighbour of
// that address is not.
func TestForMeOfReadFrames(t *testing.T) {
	for bit := -1; bit < 48; bit++ {
		dst := impl.Everyone
		if bit >= 0 {
			dst ^= 1 << bit
		}
		f, ok := impl.ReadFrame(wideBytes(dst, 6) + "\x02\x00\x00\x00\x00\x01\x08\x06")
		if !ok || f.Dst != dst || !impl.ForMe(f, dst) || impl.ForMe(f, 0x020000000001) != (bit < 0) || impl.ForMe(f, impl.Everyone) != (bit < 0) {
			t.Errorf("the frame to %d was read as %+v, %v", dst, f, ok)
		}
	}
}

// Every function returns, and returns the same again, whatever it is given.
func TestEtherIsTotal(t *testing.T) {
	defer func() {
		if r := recover(); r != nil {
			t.Fatalf("panic: %v", r)
		}
	}()
	for _, a := range farInts {
		for _, b := range farInts {
			for _, c := range farInts {
				f := impl.Frame{Dst: a, Src: b, Type: c, Body: "\x00\xff"}
				s := impl.FrameText(f)
				if impl.FrameOk(f) != impl.FrameOk(f) || s != impl.FrameText(f) || (s != "") != impl.FrameOk(f) || impl.ForMe(f, c) != impl.ForMe(f, c) {
					t.Errorf("%+v has the text %q", f, s)
				}
			}
		}
	}
	for i := range 5000 {
		s := someBytes(i%1700, i)
		f, ok := impl.ReadFrame(s)
		again, same := impl.ReadFrame(s)
		if f != again || ok != same || ok != impl.FrameOk(f) {
			t.Errorf("ReadFrame(%q) = %+v, %v", s, f, ok)
		}
	}
}

// Reading a part of a string reads and changes nothing outside of it.
func TestEtherArgumentsUnchanged(t *testing.T) {
	whole := strings.Repeat("\x08\x01\x02\xff", 30)
	kept := strings.Clone(whole)
	for from := range 20 {
		for to := from; to <= len(whole); to++ {
			got, ok := impl.ReadFrame(whole[from:to])
			want, known := impl.ReadFrame(strings.Clone(whole[from:to]))
			if got != want || ok != known || ok && got.Body != kept[from+14:to] {
				t.Errorf("ReadFrame of %d to %d = %+v, %v", from, to, got, ok)
			}
		}
	}
	f := impl.Frame{Dst: 1, Src: 2, Type: impl.EtIp, Body: whole[5:9]}
	if before := f; impl.FrameText(f) != impl.FrameText(before) || !impl.ForMe(f, 1) || f != before || whole != kept {
		t.Error("an argument was changed")
	}
}
