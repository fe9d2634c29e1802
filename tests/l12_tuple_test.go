package tests

import (
	"encoding/binary"
	"fmt"
	"math"
	"slices"
	"strings"
	"testing"

	"loop.example/g00504/impl"
)

// mssSizes are the segment sizes by their indices.
var mssSizes = []int{64, 256, 536, 1024, 1300, 1400, 1440, 1460}

// tupleNumbers are the numbers at both ends of the 3-bit, 16-bit and 32-bit words
// and of int, and some that have the lowest bits of such a word.
var tupleNumbers = []int{
	math.MinInt, math.MinInt + 1, math.MinInt + 80, -1 << 62, -1<<32 - 1, -1 << 32, -1<<32 + 7, -mostIp, -65537, -65536, -65535, -256, -9, -8, -7, -2, -1,
	0, 1, 2, 6, 7, 8, 9, 15, 16, 80, 255, 256, 257, 32767, 32768, 65534, 65535, 65536, 65537, 65536 + 80, 1<<24 - 1, 1 << 24,
	1<<31 - 1, 1 << 31, mostIp - 1, mostIp, mostIp + 1, mostIp + 2, 1<<32 + 7, 1<<33 - 1, 1 << 48, 1 << 62, math.MaxInt - 65535, math.MaxInt - 1, math.MaxInt,
}

// macArgs are the arguments of MacInput.
type macArgs struct {
	tuple         impl.Tuple
	seq, epoch, i int
}

// macFields are the arguments of MacInput one by one, with the place and the
// number of their bytes in the text, and with the bits that they may have.
var macFields = []struct {
	name           string
	at, size, bits int
	field          func(a *macArgs) *int
}{
	{"Ip", 0, 4, 32, func(a *macArgs) *int { return &a.tuple.Ip }},
	{"Port", 4, 2, 16, func(a *macArgs) *int { return &a.tuple.Port }},
	{"My", 6, 2, 16, func(a *macArgs) *int { return &a.tuple.My }},
	{"seq", 8, 4, 32, func(a *macArgs) *int { return &a.seq }},
	{"epoch", 12, 4, 32, func(a *macArgs) *int { return &a.epoch }},
	{"i", 16, 1, 3, func(a *macArgs) *int { return &a.i }},
}

// baseArgs are valid: one with bytes that are all different, and the ends.
var baseArgs = []macArgs{
	{impl.Tuple{Ip: 0x11121314, Port: 0x2122, My: 0x3132}, 0x41424344, 0x51525354, 5},
	{impl.Tuple{Ip: fromIp, Port: 40000, My: 80}, 7, 1, 2},
	{impl.Tuple{}, 0, 0, 0},
	{impl.Tuple{Ip: mostIp, Port: 65535, My: 65535}, mostIp, mostIp, 7},
}

func tupleWith(ip, port, my int) impl.Tuple { return impl.Tuple{Ip: ip, Port: port, My: my} }

func argsWith(a macArgs, at int, n int) macArgs {
	*macFields[at].field(&a) = n
	return a
}

func validTuple(t impl.Tuple) bool { return isWord(t.Ip, 32) && isWord(t.Port, 16) && isWord(t.My, 16) }

func validArgs(a macArgs) bool {
	return validTuple(a.tuple) && isWord(a.seq, 32) && isWord(a.epoch, 32) && isWord(a.i, 3)
}

func inputOf(a macArgs) string { return impl.MacInput(a.tuple, a.seq, a.epoch, a.i) }

// argsIn reads the fields of a text of 17 bytes.
func argsIn(s string) macArgs {
	b := []byte(s)
	tuple := tupleWith(int(binary.BigEndian.Uint32(b)), int(binary.BigEndian.Uint16(b[4:])), int(binary.BigEndian.Uint16(b[6:])))
	return macArgs{tuple, int(binary.BigEndian.Uint32(b[8:])), int(binary.BigEndian.Uint32(b[12:])), int(b[16])}
}

// someArgs returns valid arguments in an irregular, repeatable order.
func someArgs(seed int) macArgs {
	tuple := tupleWith(someInt(6*seed)&mostIp, someInt(6*seed+1)&65535, someInt(6*seed+2)&65535)
	return macArgs{tuple, someInt(6*seed+3) & mostIp, someInt(6*seed+4) & mostIp, someInt(6*seed+5) & 7}
}

// indexOf looks for the size from the smallest one on.
func indexOf(mss int) int {
	index := 0
	for i, size := range mssSizes {
		if mss >= size {
			index = i
		}
	}
	return index
}

func checkTupleOk(t *testing.T, x impl.Tuple, want bool) {
	t.Helper()
	for range 2 {
		if got := impl.TupleOk(x); got != want {
			t.Errorf("TupleOk(%+v) = %v", x, got)
		}
	}
}

func checkTupleOf(t *testing.T, src int, g impl.Segment) {
	t.Helper()
	before := g
	for range 2 {
		if got := impl.TupleOf(src, g); got.Ip != src || got.Port != before.From || got.My != before.To {
			t.Errorf("TupleOf(%d, %s) = %+v", src, segmentShown(g), got)
		}
	}
	if g != before {
		t.Errorf("TupleOf changed %s to %s", segmentShown(before), segmentShown(g))
	}
}

func checkMssOf(t *testing.T, i int, want int) {
	t.Helper()
	for range 2 {
		if got := impl.MssOf(i); got != want {
			t.Errorf("MssOf(%d) = %d, want %d", i, got, want)
		}
	}
}

func checkMssIndex(t *testing.T, mss int, want int) {
	t.Helper()
	for range 2 {
		if got := impl.MssIndex(mss); got != want {
			t.Errorf("MssIndex(%d) = %d, want %d", mss, got, want)
		}
	}
}

// checkInput checks all that is asked of the text of one list of arguments.
func checkInput(t *testing.T, a macArgs) {
	t.Helper()
	want := ""
	if validArgs(a) {
		want = fullInput(a.tuple.Ip, a.tuple.Port, a.tuple.My, a.seq, a.epoch, a.i)
	}
	for range 2 {
		got := inputOf(a)
		if got != want {
			t.Errorf("MacInput(%+v) = %q, want %q", a, got, want)
			return
		}
		if validArgs(a) && (len(got) != 17 || argsIn(got) != a) {
			t.Errorf("MacInput(%+v) = %q, in which there is %+v", a, got, argsIn(got))
		}
	}
}

func checkNoInput(t *testing.T, a macArgs) {
	t.Helper()
	for range 2 {
		if got := inputOf(a); got != "" {
			t.Errorf("MacInput(%+v) = %q, want nothing", a, got)
		}
	}
}

// checkInputsApart checks that two valid lists have the same text only if they
// are the same.
func checkInputsApart(t *testing.T, a, b macArgs) {
	t.Helper()
	checkInput(t, a)
	checkInput(t, b)
	if x, y := inputOf(a), inputOf(b); (x == y) != (a == b) {
		t.Errorf("MacInput(%+v) = %q, MacInput(%+v) = %q", a, x, b, y)
	}
}

func TestTupleOkEdges(t *testing.T) {
	for _, c := range []struct {
		ip, port, my int
		want         bool
	}{
		{0, 0, 0, true}, {fromIp, 40000, 80, true}, {mostIp, 65535, 65535, true}, {0, 0, 65535, true}, {0, 65535, 0, true}, {mostIp, 0, 0, true}, {1, 1, 1, true},
		{-1, 40000, 80, false}, {0, 40000, 80, true}, {4294967295, 40000, 80, true}, {4294967296, 40000, 80, false}, {math.MinInt, 40000, 80, false}, {math.MaxInt, 40000, 80, false},
		{fromIp, -1, 80, false}, {fromIp, 0, 80, true}, {fromIp, 65535, 80, true}, {fromIp, 65536, 80, false}, {fromIp, math.MinInt, 80, false}, {fromIp, math.MaxInt, 80, false},
		{fromIp, 40000, -1, false}, {fromIp, 40000, 0, true}, {fromIp, 40000, 65535, true}, {fromIp, 40000, 65536, false}, {fromIp, 40000, math.MinInt, false}, {fromIp, 40000, math.MaxInt, false},
		// An address is no port, and two wrong fields do not make a right Tuple.
		{80, fromIp, 40000, false}, {80, 40000, fromIp, false}, {-1, -1, 80, false}, {-1, 40000, -1, false}, {fromIp, -1, -1, false}, {-1, -1, -1, false},
		{4294967296, 65536, 80, false}, {4294967296, 40000, 65536, false}, {fromIp, 65536, 65536, false}, {4294967296, 65536, 65536, false}, {4294967296, -65536, 80, false}, {fromIp, 65536, -65536, false},
	} {
		checkTupleOk(t, tupleWith(c.ip, c.port, c.my), c.want)
	}
}

func TestTupleOkOfFields(t *testing.T) {
	for _, ip := range tupleNumbers {
		for _, port := range tupleNumbers {
			for _, my := range tupleNumbers {
				x := tupleWith(ip, port, my)
				if got := impl.TupleOk(x); got != validTuple(x) {
					t.Errorf("TupleOk(%+v) = %v", x, got)
				}
			}
		}
	}
	// A bit above the word, and a sign, each alone.
	for bit := range 64 {
		n := int(uint64(1) << bit)
		for _, base := range baseArgs {
			checkTupleOk(t, tupleWith(base.tuple.Ip|n, base.tuple.Port, base.tuple.My), bit < 32)
			checkTupleOk(t, tupleWith(base.tuple.Ip, base.tuple.Port|n, base.tuple.My), bit < 16)
			checkTupleOk(t, tupleWith(base.tuple.Ip, base.tuple.Port, base.tuple.My|n), bit < 16)
		}
	}
	for port := range 65536 {
		if !impl.TupleOk(tupleWith(fromIp, port, 80)) || !impl.TupleOk(tupleWith(fromIp, 80, port)) || impl.TupleOk(tupleWith(fromIp, port-65536, 80)) || impl.TupleOk(tupleWith(fromIp, 80, port+65536)) {
			t.Errorf("TupleOk is wrong for the port %d, or beside it", port)
		}
	}
	for seed := range 5000 {
		checkTupleOk(t, someArgs(seed).tuple, true)
		x := tupleWith(someInt(seed), someInt(seed+5)&131071, someInt(seed+9)&131071)
		checkTupleOk(t, x, validTuple(x))
	}
}

func TestTupleOf(t *testing.T) {
	x := impl.TupleOf(258, impl.Segment{From: 3, To: 80, Seq: 4, Ack: 5, Flags: 6, Window: 7})
	if x != tupleWith(258, 3, 80) {
		t.Errorf("TupleOf(258, ..) = %+v", x)
	}
	if x = impl.TupleOf(0, impl.Segment{}); x != (impl.Tuple{}) {
		t.Errorf("TupleOf of the zero Segment = %+v", x)
	}
	// The fields are as they are, words or not.
	for _, src := range tupleNumbers {
		for _, from := range tupleNumbers {
			for _, to := range tupleNumbers {
				if got := impl.TupleOf(src, impl.Segment{From: from, To: to}); got != tupleWith(src, from, to) {
					t.Errorf("TupleOf(%d, {From %d, To %d}) = %+v", src, from, to, got)
				}
			}
		}
	}
	for seed := range 3000 {
		checkTupleOf(t, someInt(seed), someSegment(seed, seed%1425))
	}
}

// Nothing counts but the source, From and To, also where the segment is wrong.
func TestTupleOfOtherFields(t *testing.T) {
	list := []impl.Segment{
		{}, {Flags: impl.FlSyn}, {Flags: impl.FlRst | impl.FlAck}, {Flags: 64}, {Flags: -1}, {Seq: -1}, {Ack: 1 << 32}, {Window: 65536}, {Seq: 40000, Ack: 80, Window: 258},
		{Opts: noOptions}, {Opts: allOptions}, {Opts: impl.Options{Mss: -1, Scale: 15, Val: 3}}, {Body: "hi"}, {Body: strings.Repeat("x", 1421)}, {Body: strings.Repeat("\xff", 70000)},
	}
	for _, n := range tupleNumbers {
		list = append(list, impl.Segment{Seq: n, Ack: n, Flags: n, Window: n, Opts: impl.Options{Mss: n, Scale: n, Val: n, Echo: n}})
	}
	for seed := range 100 {
		list = append(list, someSegment(seed, seed))
	}
	right := map[bool]int{}
	for _, g := range list {
		for _, ends := range [][2]int{{40000, 80}, {80, 40000}, {0, 0}, {65535, 65536}, {-1, 80}, {80, math.MinInt}, {math.MaxInt, math.MaxInt}} {
			g.From, g.To = ends[0], ends[1]
			right[impl.SegmentOk(g)]++
			for _, src := range []int{fromIp, 0, mostIp, mostIp + 1, -1, math.MinInt, math.MaxInt} {
				checkTupleOf(t, src, g)
				if got := impl.TupleOf(src, g); got != impl.TupleOf(src, impl.Segment{From: g.From, To: g.To}) {
					t.Errorf("TupleOf(%d, %s) = %+v", src, segmentShown(g), got)
				}
			}
		}
	}
	if right[true] < 100 || right[false] < 100 {
		t.Errorf("only %d and %d of the segments are right and wrong", right[true], right[false])
	}
}

func TestMssOf(t *testing.T) {
	for _, c := range []struct{ i, want int }{
		{-1, 0}, {0, 64}, {1, 256}, {2, 536}, {3, 1024}, {4, 1300}, {5, 1400}, {6, 1440}, {7, 1460}, {8, 0},
		{math.MinInt, 0}, {math.MaxInt, 0}, {-2, 0}, {-8, 0}, {9, 0}, {64, 0}, {256, 0}, {1460, 0},
	} {
		checkMssOf(t, c.i, c.want)
	}
	for i := -70000; i <= 70000; i++ {
		want := 0
		if i >= 0 && i <= 7 {
			want = mssSizes[i]
		}
		checkMssOf(t, i, want)
	}
	// What has the lowest bits of an index is none.
	for i := range 8 {
		for bit := 3; bit < 64; bit++ {
			checkMssOf(t, i|int(uint64(1)<<bit), 0)
		}
		checkMssOf(t, i-8, 0)
		checkMssOf(t, math.MinInt+i, 0)
		checkMssOf(t, math.MaxInt-i, 0)
		checkMssOf(t, -1<<32+i, 0)
	}
	for _, n := range slices.Concat(tupleNumbers, farInts) {
		if n < 0 || n > 7 {
			checkMssOf(t, n, 0)
		}
	}
}

func TestMssIndexEdges(t *testing.T) {
	edges := []struct{ mss, want int }{
		{math.MinInt, 0}, {math.MinInt + 1, 0}, {-65536, 0}, {-1460, 0}, {-64, 0}, {-1, 0}, {0, 0}, {1, 0}, {10, 0}, {32, 0},
		{63, 0}, {64, 0}, {65, 0}, {255, 0}, {256, 1}, {257, 1}, {535, 1}, {536, 2}, {537, 2}, {1023, 2}, {1024, 3}, {1025, 3},
		{1299, 3}, {1300, 4}, {1301, 4}, {1399, 4}, {1400, 5}, {1401, 5}, {1439, 5}, {1440, 6}, {1441, 6}, {1459, 6}, {1460, 7}, {1461, 7},
		{1500, 7}, {8960, 7}, {65535, 7}, {65536, 7}, {65536 + 63, 7}, {1 << 31, 7}, {1 << 32, 7}, {1<<32 + 64, 7}, {math.MaxInt - 1, 7}, {math.MaxInt, 7},
	}
	// The answer is the same every time, in any order of the calls.
	for round := range 500 {
		for at := range edges {
			c := edges[(at*(2*(round%5)+1)+round)%len(edges)]
			if got := impl.MssIndex(c.mss); got != c.want {
				t.Fatalf("in round %d, MssIndex(%d) = %d, want %d", round, c.mss, got, c.want)
			}
			checkMssIndex(t, c.mss, c.want)
		}
	}
	for _, c := range edges {
		for range 3000 {
			if got := impl.MssIndex(c.mss); got != c.want {
				t.Fatalf("MssIndex(%d) = %d, want %d", c.mss, got, c.want)
			}
		}
	}
}

func TestMssIndexOfAllSizes(t *testing.T) {
	for mss := -3000; mss <= 70000; mss++ {
		checkMssIndex(t, mss, indexOf(mss))
		i := impl.MssIndex(mss)
		size := impl.MssOf(i)
		if size < 64 || size > 1460 {
			t.Errorf("MssIndex(%d) = %d, of the size %d", mss, i, size)
		}
		if size > mss && i != 0 || i < 7 && mss >= impl.MssOf(i+1) {
			t.Errorf("MssIndex(%d) = %d: %d is not the greatest size up to it", mss, i, size)
		}
		// Only below the smallest size, the answer is a size greater than mss.
		if (size > mss) != (mss < 64) {
			t.Errorf("MssIndex(%d) = %d, of the size %d", mss, i, size)
		}
	}
	for _, n := range slices.Concat(tupleNumbers, farInts, mssFields) {
		checkMssIndex(t, n, indexOf(n))
	}
	for i, size := range mssSizes {
		for range 100 {
			checkMssIndex(t, impl.MssOf(i), i)
			checkMssIndex(t, size-1, max(i-1, 0))
			checkMssIndex(t, size+1, i)
			checkMssIndex(t, -size, 0)
		}
	}
	for seed := range 5000 {
		checkMssIndex(t, someInt(seed), indexOf(someInt(seed)))
	}
}

func TestMacInputBytes(t *testing.T) {
	for _, c := range []struct {
		a    macArgs
		want string
	}{
		{macArgs{}, strings.Repeat("\x00", 17)},
		{macArgs{tupleWith(258, 3, 80), 1, 2, 7}, "\x00\x00\x01\x02\x00\x03\x00\x50\x00\x00\x00\x01\x00\x00\x00\x02\x07"},
		{macArgs{tupleWith(0x01020304, 0x0506, 0x0708), 0x090a0b0c, 0x0d0e0f10, 1}, "\x01\x02\x03\x04\x05\x06\x07\x08\x09\x0a\x0b\x0c\x0d\x0e\x0f\x10\x01"},
		{macArgs{tupleWith(0xfffefdfc, 0xfbfa, 0xf9f8), 0xf7f6f5f4, 0xf3f2f1f0, 6}, "\xff\xfe\xfd\xfc\xfb\xfa\xf9\xf8\xf7\xf6\xf5\xf4\xf3\xf2\xf1\xf0\x06"},
		{macArgs{tupleWith(mostIp, 65535, 65535), mostIp, mostIp, 7}, strings.Repeat("\xff", 16) + "\x07"},
		{macArgs{tupleWith(mostIp, 0, 0), 0, 0, 0}, "\xff\xff\xff\xff\x00\x00\x00\x00\x00\x00\x00\x00\x00\x00\x00\x00\x00"},
		{macArgs{tupleWith(0, 65535, 0), 0, 0, 0}, "\x00\x00\x00\x00\xff\xff\x00\x00\x00\x00\x00\x00\x00\x00\x00\x00\x00"},
		{macArgs{tupleWith(0, 0, 65535), 0, 0, 0}, "\x00\x00\x00\x00\x00\x00\xff\xff\x00\x00\x00\x00\x00\x00\x00\x00\x00"},
		{macArgs{tupleWith(0, 0, 0), mostIp, 0, 0}, "\x00\x00\x00\x00\x00\x00\x00\x00\xff\xff\xff\xff\x00\x00\x00\x00\x00"},
		{macArgs{tupleWith(0, 0, 0), 0, mostIp, 0}, "\x00\x00\x00\x00\x00\x00\x00\x00\x00\x00\x00\x00\xff\xff\xff\xff\x00"},
		{macArgs{tupleWith(0, 0, 0), 0, 0, 7}, "\x00\x00\x00\x00\x00\x00\x00\x00\x00\x00\x00\x00\x00\x00\x00\x00\x07"},
		{macArgs{tupleWith(0xc0a800c7, 40000, 443), 0x80000000, 0x7fffffff, 3}, "\xc0\xa8\x00\xc7\x9c\x40\x01\xbb\x80\x00\x00\x00\x7f\xff\xff\xff\x03"},
	} {
		if got := inputOf(c.a); got != c.want {
			t.Errorf("MacInput(%+v) = %q, want %q", c.a, got, c.want)
		}
		checkInput(t, c.a)
	}
	for _, base := range baseArgs {
		for i := range 8 {
			base.i = i
			checkInput(t, base)
			if got := inputOf(base); len(got) != 17 || got[16] != byte(i) {
				t.Errorf("MacInput(%+v) = %q", base, got)
			}
		}
	}
}

// One field is any number, beside others that are valid.
func TestMacInputOfEachField(t *testing.T) {
	for at, f := range macFields {
		limit := 1 << f.bits
		for _, base := range baseArgs {
			for _, n := range []int{math.MinInt, math.MinInt + 1, -limit - 1, -limit, -limit + 1, -2, -1, limit, limit + 1, limit + 80, 2 * limit, 1 << 62, math.MaxInt - 1, math.MaxInt} {
				checkNoInput(t, argsWith(base, at, n))
			}
			for _, n := range []int{0, 1, limit / 2, limit - 2, limit - 1} {
				checkInput(t, argsWith(base, at, n))
				if got := inputOf(argsWith(base, at, n)); len(got) != 17 || got[f.at:f.at+f.size] != wideBytes(n, f.size) {
					t.Errorf("with %s = %d, MacInput(%+v) = %q", f.name, n, argsWith(base, at, n), got)
				}
			}
			for _, n := range slices.Concat(tupleNumbers, farInts) {
				checkInput(t, argsWith(base, at, n))
			}
			for bit := f.bits; bit < 64; bit++ {
				checkNoInput(t, argsWith(base, at, *f.field(&base)|int(uint64(1)<<bit)))
			}
		}
	}
	for _, base := range baseArgs {
		for i := -300; i <= 300; i++ {
			base.i = i
			checkInput(t, base)
		}
	}
}

// Two fields are any numbers: a wrong one is not made up for by another.
func TestMacInputOfTwoFields(t *testing.T) {
	for at := range macFields {
		for other := range at {
			for _, n := range tupleNumbers {
				for _, m := range tupleNumbers {
					checkInput(t, argsWith(argsWith(baseArgs[0], at, n), other, m))
				}
			}
		}
	}
	for _, n := range tupleNumbers {
		checkInput(t, macArgs{tupleWith(n, n, n), n, n, n})
		checkInput(t, macArgs{tupleWith(n, n, n), 1, 2, 3})
		checkInput(t, macArgs{tupleWith(1, 2, 3), n, n, 4})
	}
}

// A changed bit of a field is the same bit of its bytes in the text, and nothing
// else there.
func TestMacInputOfOneBit(t *testing.T) {
	bases := slices.Clone(baseArgs)
	for seed := range 50 {
		bases = append(bases, someArgs(seed))
	}
	for _, base := range bases {
		texts := map[string]string{inputOf(base): "none"}
		for at, f := range macFields {
			for bit := range f.bits {
				changed := argsWith(base, at, *f.field(&base)^1<<bit)
				checkInputsApart(t, base, changed)
				place := f.at + f.size - 1 - bit/8
				got, want := inputOf(changed), inputOf(base)
				if want != "" {
					want = replaced(want, place, string([]byte{want[place] ^ 1<<(bit%8)}))
				}
				if got != want {
					t.Errorf("with bit %d of %s changed, MacInput(%+v) = %q, want %q", bit, f.name, changed, got, want)
				}
				name := fmt.Sprintf("bit %d of %s", bit, f.name)
				if other, ok := texts[got]; ok {
					t.Errorf("with %s and %s changed, MacInput(%+v) = %q", other, name, base, got)
				}
				texts[got] = name
			}
		}
		if len(texts) != 1+32+16+16+32+32+3 {
			t.Errorf("there are %d texts around %+v", len(texts), base)
		}
	}
}

// Two fields are exchanged, of those that fit into one another.
func TestMacInputOfExchangedFields(t *testing.T) {
	bases := slices.Clone(baseArgs)
	for seed := range 200 {
		bases = append(bases, someArgs(seed), argsWith(someArgs(seed), 0, someInt(seed)&65535), argsWith(someArgs(seed), 3, someInt(seed)&7))
	}
	bases = append(bases, macArgs{tupleWith(1, 2, 3), 4, 5, 6}, macArgs{tupleWith(6, 5, 4), 3, 2, 1}, macArgs{tupleWith(80, 81, 80), 80, 81, 0}, macArgs{tupleWith(7, 7, 7), 7, 7, 7})
	pairs, apart := map[string]int{}, 0
	for _, base := range bases {
		for at, f := range macFields {
			for other, g := range macFields[:at] {
				n, m := *f.field(&base), *g.field(&base)
				swapped := argsWith(argsWith(base, at, m), other, n)
				checkInput(t, swapped)
				if !validArgs(swapped) {
					continue
				}
				checkInputsApart(t, base, swapped)
				if n != m {
					apart++
					pairs[g.name+" and "+f.name]++
				}
				if got := inputOf(swapped); len(got) != 17 || got[f.at:f.at+f.size] != wideBytes(m, f.size) || got[g.at:g.at+g.size] != wideBytes(n, g.size) {
					t.Errorf("with %s and %s exchanged, MacInput(%+v) = %q", f.name, g.name, swapped, got)
				}
			}
		}
		// All six, or some of them, in another order.
		x := base.tuple
		for _, other := range []macArgs{
			{x, base.epoch, base.seq, base.i}, {tupleWith(x.Ip, x.My, x.Port), base.seq, base.epoch, base.i}, {tupleWith(base.seq, x.Port, x.My), x.Ip, base.epoch, base.i},
			{tupleWith(base.seq, x.My, x.Port), base.epoch, x.Ip, base.i}, {tupleWith(base.epoch, x.My, x.Port), base.seq, x.Ip, base.i}, {tupleWith(base.epoch, x.Port, x.My), x.Ip, base.seq, base.i},
		} {
			checkInputsApart(t, base, other)
		}
	}
	if len(pairs) != 15 || apart < 1000 {
		t.Errorf("only %d lists with exchanged fields, of these pairs: %v", apart, pairs)
	}
}

// runTogether are valid lists of which some are the same once their fields are
// written one behind another in fewer digits or bytes than there is room for.
var runTogether = []macArgs{
	// As decimal digits: 1 and 23, 12 and 3.
	{tupleWith(1, 23, 4), 5, 6, 7}, {tupleWith(12, 3, 4), 5, 6, 7}, {tupleWith(123, 4, 5), 6, 7, 0}, {tupleWith(1, 2, 34), 5, 6, 7}, {tupleWith(1, 2, 3), 45, 6, 7},
	{tupleWith(1, 2, 3), 4, 56, 7}, {tupleWith(1, 2, 3), 4, 5, 6}, {tupleWith(1, 2, 3), 4, 56, 0}, {tupleWith(0, 12, 3), 45, 6, 7},
	{tupleWith(1, 0, 0), 0, 0, 0}, {tupleWith(10, 0, 0), 0, 0, 0}, {tupleWith(0, 1, 0), 0, 0, 0}, {tupleWith(0, 10, 0), 0, 0, 0},
	{tupleWith(0, 0, 1), 0, 0, 0}, {tupleWith(0, 0, 0), 1, 0, 0}, {tupleWith(0, 0, 0), 0, 1, 0}, {tupleWith(0, 0, 0), 0, 0, 1},
	// As bytes without leading zeros: 1 and 0x0203, 0x0102 and 3.
	{tupleWith(1, 0x0203, 4), 5, 6, 7}, {tupleWith(0x0102, 3, 4), 5, 6, 7}, {tupleWith(1, 2, 0x0304), 5, 6, 7}, {tupleWith(1, 2, 3), 0x0405, 6, 7},
	{tupleWith(1, 2, 3), 4, 0x0506, 7}, {tupleWith(0x01020304, 5, 6), 7, 1, 2}, {tupleWith(1, 2, 0x0304), 0x05060701, 1, 2},
	{tupleWith(0x0100, 0, 0), 0, 0, 0}, {tupleWith(0, 0x0100, 0), 0, 0, 0}, {tupleWith(0, 0, 0x0100), 0, 0, 0}, {tupleWith(0, 0, 0), 0x0100, 0, 0},
	{tupleWith(0, 0, 0), 0, 0x0100, 0}, {tupleWith(0, 0, 0), 0x01000000, 0, 0}, {tupleWith(0, 0, 0), 0, 0x01000000, 0}, {tupleWith(0x01000000, 0, 0), 0, 0, 0},
}

// Bytes move over the border of two fields.
func TestMacInputOfMovedBytes(t *testing.T) {
	list := slices.Clone(runTogether)
	// The same bytes at every place, with zero bytes or others around them.
	for _, fill := range []string{"\x00", "\xff", "\x05"} {
		for _, run := range []string{"\x01", "\x01\x02", "\x02\x01", "\x03\x03", "\x01\x02\x03", "\x01\x00\x02", "\x01\x02\x03\x04", "\x00\x01\x02\x03\x04\x05\x06\x07"} {
			for at := range 17 - len(run) {
				a := argsIn(replaced(strings.Repeat(fill, 16)+"\x02", at, run))
				if !slices.Contains(list, a) {
					list = append(list, a)
				}
			}
		}
	}
	// A byte is moved from the end of a field to the beginning of the next one,
	// with the rest of both, and back.
	for _, base := range append(slices.Clone(baseArgs), someArgs(1), someArgs(2), someArgs(3)) {
		text := fullInput(base.tuple.Ip, base.tuple.Port, base.tuple.My, base.seq, base.epoch, base.i)
		for _, f := range macFields[1:5] {
			for _, moved := range []string{
				text[:f.at-1] + text[f.at:f.at+f.size] + text[f.at-1:f.at] + text[f.at+f.size:],
				text[:f.at-1] + text[f.at:f.at+1] + text[f.at-1:f.at] + text[f.at+1:],
				text[:f.at-1] + "\x00" + text[f.at-1:f.at+f.size-1] + text[f.at+f.size:],
				text[:f.at-1] + text[f.at:f.at+f.size] + "\x00" + text[f.at+f.size:],
			} {
				a := argsIn(moved)
				checkInputsApart(t, base, a)
				if !slices.Contains(list, a) {
					list = append(list, a)
				}
			}
		}
	}
	if len(list) < 300 {
		t.Errorf("only %d lists", len(list))
	}
	for i, a := range list {
		for _, b := range list[:i+1] {
			if (inputOf(a) == inputOf(b)) != (a == b) {
				t.Errorf("MacInput(%+v) = %q, MacInput(%+v) = %q", a, inputOf(a), b, inputOf(b))
			}
		}
		checkInput(t, a)
	}
}

// All lists of a few values of each field, and many drawn ones, have texts of
// their own.
func TestMacInputsAreUnique(t *testing.T) {
	found := map[string]macArgs{}
	add := func(a macArgs) {
		t.Helper()
		text := inputOf(a)
		if len(text) != 17 {
			t.Errorf("MacInput(%+v) = %q", a, text)
		}
		if other, ok := found[text]; ok && other != a {
			t.Errorf("MacInput(%+v) and MacInput(%+v) are %q", a, other, text)
		}
		found[text] = a
	}
	wide, narrow := []int{0, 1, 256, 1 << 24, mostIp}, []int{0, 1, 256, 65535}
	for _, ip := range wide {
		for _, port := range narrow {
			for _, my := range narrow {
				for _, seq := range wide {
					for _, epoch := range wide {
						for i := range 8 {
							add(macArgs{tupleWith(ip, port, my), seq, epoch, i})
						}
					}
				}
			}
		}
	}
	if len(found) != 5*4*4*5*5*8 {
		t.Errorf("there are %d texts of %d lists", len(found), 5*4*4*5*5*8)
	}
	for seed := range 50000 {
		a := someArgs(seed)
		add(a)
		add(macArgs{tupleWith(a.tuple.Ip&3, a.tuple.Port&3, a.tuple.My&3), a.seq & 3, a.epoch & 3, a.i & 3})
	}
	for seed := range 50000 {
		checkInput(t, someArgs(seed))
		if text := inputOf(someArgs(seed)); found[text] != someArgs(seed) {
			t.Errorf("MacInput(%+v) = %q, and before another one", someArgs(seed), text)
		}
	}
}

// The texts are inputs of Macs: a table has a row of its own for each of them.
func TestMacInputsInTables(t *testing.T) {
	var rows []impl.MacRow
	for at := range mostRows {
		rows = append(rows, rowOf(inputOf(macArgs{tupleWith(fromIp, at/8, 80), at / 16, at % 4, at % 8}), at))
	}
	m := impl.TableMac(rows)
	checkMacOk(t, m, true)
	for at := range mostRows {
		checkTag(t, m, inputOf(macArgs{tupleWith(fromIp, at/8, 80), at / 16, at % 4, at % 8}), at)
	}
	checkTag(t, m, inputOf(macArgs{tupleWith(fromIp, 0, 80), 0, 0, 1}), 0)
}

// Every function returns, and returns the same again, whatever it is given.
func TestTupleIsTotal(t *testing.T) {
	defer func() {
		if r := recover(); r != nil {
			t.Fatalf("panic: %v", r)
		}
	}()
	for at, n := range farInts {
		for other, m := range farInts {
			x := tupleWith(n, m, someInt(at+other))
			checkTupleOk(t, x, validTuple(x))
			checkTupleOf(t, n, impl.Segment{From: m, To: n, Seq: m, Ack: n, Flags: m, Window: n, Opts: impl.Options{Mss: n, Scale: m}, Body: someBytes(at, other)})
			checkInput(t, macArgs{x, n, m, n})
			checkInput(t, macArgs{x, m, n, m})
			checkInput(t, macArgs{tupleWith(fromIp, 40000, 80), n, m, someInt(at)})
			checkInput(t, macArgs{tupleWith(n, 40000, m), 1, 2, 3})
		}
		impl.MssOf(n)
		checkMssIndex(t, n, indexOf(n))
	}
	for seed := range 20000 {
		checkInput(t, macArgs{tupleWith(someInt(seed), someInt(seed+1), someInt(seed+2)), someInt(seed + 3), someInt(seed + 4), someInt(seed + 5)})
	}
}

// What the caller holds is as it was, also behind the end of what it gave.
func TestTupleArgumentsUnchanged(t *testing.T) {
	body := []byte(someBytes(100, 1))
	before := string(body)
	for seed := range 500 {
		g := someSegment(seed, 0)
		g.Body = before[seed%100:]
		kept := g
		x := impl.TupleOf(someInt(seed), g)
		old := x
		impl.TupleOk(x)
		impl.MacInput(x, g.Seq, g.Ack, seed%9-1)
		if g != kept || x != old || g.Body != string(body[seed%100:]) {
			t.Errorf("%s is %s now, and %+v is %+v", segmentShown(kept), segmentShown(g), old, x)
		}
		// A change of the result is not seen in another result.
		x.Ip, x.Port, x.My = -7, -7, -7
		if again := impl.TupleOf(someInt(seed), g); again != old {
			t.Errorf("TupleOf(%d, %s) = %+v, and before %+v", someInt(seed), segmentShown(g), again, old)
		}
	}
}

// No call depends on other calls, before it or at the same time.
func TestTupleKeepsNothing(t *testing.T) {
	checkAtOnce(t, func(worker int, faults map[string]int) {
		for n := range 2000 {
			seed := n + 31*worker
			a, g := someArgs(seed), impl.Segment{From: seed, To: -seed}
			if impl.TupleOk(a.tuple) != validTuple(a.tuple) || impl.TupleOk(tupleWith(seed, seed, -1)) {
				faults["TupleOk"]++
			}
			if impl.TupleOf(n, g) != tupleWith(n, seed, -seed) {
				faults["TupleOf"]++
			}
			if impl.MssOf(seed%8) != mssSizes[seed%8] || impl.MssOf(8+seed) != 0 {
				faults["MssOf"]++
			}
			if impl.MssIndex(seed) != indexOf(seed) || impl.MssIndex(mssSizes[seed%8]) != seed%8 {
				faults["MssIndex"]++
			}
			if impl.MacInput(a.tuple, a.seq, a.epoch, 8) != "" || inputOf(a) != fullInput(a.tuple.Ip, a.tuple.Port, a.tuple.My, a.seq, a.epoch, a.i) {
				faults["MacInput"]++
			}
		}
	})
}
