package tests

import (
	"math"
	"math/big"
	"slices"
	"testing"

	"loop.example/g00504/impl"
)

// The weights of the parts of a stamp.
const (
	sackWeight  = 16
	markWeight  = 32
	clockWeight = 64
	// mostClock is the last clock before those that a stamp counts from 0 again.
	mostClock = 67108863
)

// stampClocks are the clocks at both ends of what a stamp has room for and of
// int, and those whose product with 64 is just or just not an int.
var stampClocks = []int{
	0, 1, 2, 3, 31, 32, 63, 64, 1 << 20, 1 << 25, mostClock - 1, mostClock, mostClock + 1, mostClock + 2, 2*mostClock + 1, 2*mostClock + 2, 1<<31 - 1, 1 << 31, mostIp, mostIp + 1,
	1<<57 - 1, 1 << 57, 1<<57 + 1, 1<<58 - 1, 1 << 58, 1<<58 + 1, 1<<58 + 5, 1<<60 + 7, 1 << 62, math.MaxInt - 1, math.MaxInt,
	-1, -2, -63, -64, -65, -mostClock, -mostClock - 1, -mostClock - 2, -1 << 31, -1 << 32, -1 << 57, -1<<57 - 1, -1<<57 + 1, -1 << 58, -1<<58 + 3, -1 << 62, math.MinInt + 1, math.MinInt,
}

// stampScales are all scales, and numbers that are none, some of which have the
// lowest bits of one.
var stampScales = []int{
	-1, 0, 1, 2, 3, 4, 5, 6, 7, 8, 9, 10, 11, 12, 13, 14, 15, 16, 17, 30, 31, 32, 63, 64, 255, 256, 256 + 7, 1 << 31, 1 << 32, 1<<32 + 7, 1 << 62, math.MaxInt - 1, math.MaxInt,
	-2, -3, -9, -15, -16, -17, -32, -256, -256 + 7, -1 << 32, -1<<32 + 7, math.MinInt, math.MinInt + 1, math.MinInt + 7, math.MinInt + 14, math.MinInt + 15,
}

// stampWords are numbers that are echoed: stamps, and what is none.
var stampWords = []int{
	0, 1, 14, 15, 16, 30, 31, 32, 33, 46, 47, 48, 49, 62, 63, 64, 95, 96, 97, 110, 111, 112, 126, 127, 128, 160, 65535, 65536, 1<<31 - 33, 1<<31 - 32, 1<<31 - 1, 1 << 31, 1<<31 + 32,
	mostIp - 64, mostIp - 33, mostIp - 32, mostIp - 31, mostIp - 17, mostIp - 16, mostIp - 15, mostIp - 1, mostIp, mostIp + 1, mostIp + 2, mostIp + 33, mostIp + 48, 1<<33 + 32, 1<<33 + 63, 1<<40 + 32, 1<<62 + 32,
	math.MaxInt - 32, math.MaxInt - 31, math.MaxInt - 1, math.MaxInt, -1, -2, -16, -17, -32, -33, -64, -96, -1<<32 + 32, -1<<32 + 47, -1 << 32, math.MinInt, math.MinInt + 1, math.MinInt + 32, math.MinInt + 63,
}

var bools = []bool{false, true}

func isScale(scale int) bool { return scale > -1 && scale < 15 }

// scaleBack is the scale that a stamp brings back.
func scaleBack(scale int) int {
	if isScale(scale) {
		return scale
	}
	return -1
}

// stampFor adds a stamp up, without the wraparound of an int.
func stampFor(clock, scale int, sack bool) int {
	n := new(big.Int).Mul(big.NewInt(int64(clock)), big.NewInt(clockWeight))
	n.Add(n, big.NewInt(markWeight))
	n.Add(n, big.NewInt(int64(numberIf(sack, sackWeight))))
	if scale = scaleBack(scale); scale < 0 {
		scale = 15
	}
	n.Add(n, big.NewInt(int64(scale)))
	return int(n.Mod(n, big.NewInt(all)).Int64())
}

// stampAt takes a stamp apart by its remainders.
func stampAt(v int) (int, bool, bool) {
	if v < 0 || v > mostIp || v%clockWeight < markWeight {
		return -1, false, false
	}
	return scaleBack(v % sackWeight), v%markWeight >= sackWeight, true
}

func answerFor(o impl.Options, clock int) impl.Options {
	if !o.Stamp {
		return impl.Options{Mss: 1460, Scale: -1}
	}
	return impl.Options{Mss: 1460, Scale: min(scaleBack(o.Scale), 0), Sack: o.Sack, Stamp: true, Val: stampFor(clock, o.Scale, o.Sack), Echo: o.Val}
}

func learnedFrom(i int, o impl.Options) impl.Options {
	mss := 0
	if i >= 0 && i < len(mssSizes) {
		mss = mssSizes[i]
	}
	scale, sack, ok := stampAt(o.Echo)
	if !o.Stamp || !ok {
		return impl.Options{Mss: mss, Scale: -1}
	}
	return impl.Options{Mss: mss, Scale: scale, Sack: sack, Stamp: true, Val: o.Val}
}

func checkStampOf(t *testing.T, clock, scale int, sack bool, want int) {
	t.Helper()
	for range 2 {
		if got := impl.StampOf(clock, scale, sack); got != want || want != stampFor(clock, scale, sack) {
			t.Errorf("StampOf(%d, %d, %v) = %d, want %d", clock, scale, sack, got, want)
		}
	}
}

func checkStampIn(t *testing.T, v int, scale int, sack, ok bool) {
	t.Helper()
	if wantScale, wantSack, wantOk := stampAt(v); wantScale != scale || wantSack != sack || wantOk != ok {
		t.Errorf("the test wants %d, %v, %v of %d, and not %d, %v, %v", wantScale, wantSack, wantOk, v, scale, sack, ok)
	}
	for range 2 {
		if gotScale, gotSack, gotOk := impl.StampIn(v); gotScale != scale || gotSack != sack || gotOk != ok {
			t.Errorf("StampIn(%d) = %d, %v, %v, want %d, %v, %v", v, gotScale, gotSack, gotOk, scale, sack, ok)
		}
	}
}

// checkNoStamp checks that v is refused, with nothing beside the answer.
func checkNoStamp(t *testing.T, v int) {
	t.Helper()
	checkStampIn(t, v, -1, false, false)
}

// checkBack checks that a stamp is a word with the mark, and that it brings back
// what was put into it.
func checkBack(t *testing.T, clock, scale int, sack bool) {
	t.Helper()
	v := impl.StampOf(clock, scale, sack)
	checkStampOf(t, clock, scale, sack, stampFor(clock, scale, sack))
	if v < 0 || v > mostIp || v/markWeight%2 != 1 || !impl.WordOk(v, 32) {
		t.Errorf("StampOf(%d, %d, %v) = %d, which is no word with the mark", clock, scale, sack, v)
	}
	checkStampIn(t, v, scaleBack(scale), sack, true)
}

func checkAnswerOptions(t *testing.T, o impl.Options, clock int, want impl.Options) {
	t.Helper()
	before := o
	for range 2 {
		if got := impl.AnswerOptions(o, clock); got != want || want != answerFor(o, clock) {
			t.Errorf("AnswerOptions(%+v, %d) = %+v, want %+v", o, clock, got, want)
		}
	}
	if o != before {
		t.Errorf("AnswerOptions changed %+v to %+v", before, o)
	}
}

func checkLearned(t *testing.T, i int, o impl.Options, want impl.Options) {
	t.Helper()
	before := o
	for range 2 {
		if got := impl.LearnedOptions(i, o); got != want || want != learnedFrom(i, o) {
			t.Errorf("LearnedOptions(%d, %+v) = %+v, want %+v", i, o, got, want)
		}
	}
	if o != before {
		t.Errorf("LearnedOptions changed %+v to %+v", before, o)
	}
}

// checkNothingLearned checks that the Mss of the index alone is learned.
func checkNothingLearned(t *testing.T, i int, o impl.Options) {
	t.Helper()
	want := impl.NoOptions()
	want.Mss = impl.MssOf(i)
	checkLearned(t, i, o, want)
}

// ackOf are the options of a peer's ACK for an answer: like those of Chapter 32,
// they have nothing but a stamp.
func ackOf(val int, answer impl.Options) impl.Options {
	return impl.Options{Scale: -1, Stamp: true, Val: val, Echo: answer.Val}
}

func TestOwnMss(t *testing.T) {
	if impl.OwnMss != 1460 || impl.MssIndex(impl.OwnMss) != 7 || impl.MssOf(7) != impl.OwnMss {
		t.Error("the listener's own Mss differs from the document")
	}
}

func TestStampOf(t *testing.T) {
	for _, c := range []struct {
		clock, scale int
		sack         bool
		want         int
	}{
		{0, 0, false, 32}, {0, 0, true, 48}, {0, 1, false, 33}, {0, 1, true, 49}, {0, 7, false, 39}, {0, 7, true, 55}, {0, 14, false, 46}, {0, 14, true, 62},
		{0, -1, false, 47}, {0, -1, true, 63}, {0, 15, false, 47}, {0, 15, true, 63}, {0, 16, false, 47}, {0, 16, true, 63}, {0, 31, false, 47}, {0, 32, false, 47},
		{0, -2, false, 47}, {0, -9, true, 63}, {0, math.MaxInt, false, 47}, {0, math.MinInt, false, 47}, {0, math.MaxInt, true, 63}, {0, math.MinInt, true, 63}, {0, math.MinInt + 7, true, 63}, {0, 1<<32 + 7, true, 63},
		{1, 0, false, 96}, {1, 0, true, 112}, {1, -1, true, 127}, {2, 5, false, 165}, {3, 7, true, 247}, {1000, 14, true, 64062},
		{67108862, 0, false, 4294967200}, {67108863, 0, false, 4294967264}, {67108863, 14, true, 4294967294}, {67108863, 15, true, 4294967295}, {67108863, -1, false, 4294967279},
		{67108864, 0, false, 32}, {67108864, -1, false, 47}, {67108864, -1, true, 63}, {67108865, 3, false, 99}, {134217727, 0, false, 4294967264}, {134217728, 0, true, 48},
		{-1, 0, false, 4294967264}, {-1, 15, true, 4294967295}, {-1, -1, true, 4294967295}, {-2, 0, false, 4294967200}, {-67108863, 2, false, 98}, {-67108864, 2, false, 34}, {-67108865, 2, false, 4294967266},
		{1 << 57, 0, false, 32}, {1<<57 - 1, 0, false, 4294967264}, {1<<57 + 1, 0, true, 112}, {1<<58 + 5, 9, true, 377}, {-1<<57 - 1, 4, false, 4294967268}, {-1<<58 + 3, 0, false, 224},
		{math.MaxInt, 0, false, 4294967264}, {math.MaxInt, -1, true, 4294967295}, {math.MaxInt - 1, 7, false, 4294967207}, {math.MinInt, 0, false, 32}, {math.MinInt, 15, true, 63}, {math.MinInt + 1, 7, true, 119},
	} {
		checkStampOf(t, c.clock, c.scale, c.sack, c.want)
	}
}

func TestStampIn(t *testing.T) {
	for _, c := range []struct {
		v, scale int
		sack, ok bool
	}{
		{math.MinInt, -1, false, false}, {math.MinInt + 32, -1, false, false}, {-4294967296, -1, false, false}, {-4294967264, -1, false, false}, {-64, -1, false, false}, {-33, -1, false, false}, {-32, -1, false, false}, {-17, -1, false, false}, {-1, -1, false, false},
		{0, -1, false, false}, {1, -1, false, false}, {7, -1, false, false}, {14, -1, false, false}, {15, -1, false, false}, {16, -1, false, false}, {23, -1, false, false}, {30, -1, false, false}, {31, -1, false, false},
		{32, 0, false, true}, {33, 1, false, true}, {39, 7, false, true}, {45, 13, false, true}, {46, 14, false, true}, {47, -1, false, true}, {48, 0, true, true}, {49, 1, true, true}, {55, 7, true, true}, {62, 14, true, true}, {63, -1, true, true},
		{64, -1, false, false}, {79, -1, false, false}, {80, -1, false, false}, {95, -1, false, false}, {96, 0, false, true}, {103, 7, false, true}, {111, -1, false, true}, {112, 0, true, true}, {126, 14, true, true}, {127, -1, true, true}, {128, -1, false, false},
		{2147483647, -1, true, true}, {2147483648, -1, false, false}, {2147483680, 0, false, true}, {2147483679, -1, false, false}, {4294967231, -1, true, true}, {4294967232, -1, false, false}, {4294967263, -1, false, false}, {4294967264, 0, false, true},
		{4294967278, 14, false, true}, {4294967279, -1, false, true}, {4294967280, 0, true, true}, {4294967294, 14, true, true}, {4294967295, -1, true, true},
		{4294967296, -1, false, false}, {4294967328, -1, false, false}, {4294967343, -1, false, false}, {4294967359, -1, false, false}, {8589934591, -1, false, false}, {1<<40 + 32, -1, false, false}, {1<<62 + 48, -1, false, false}, {math.MaxInt - 16, -1, false, false}, {math.MaxInt, -1, false, false},
	} {
		checkStampIn(t, c.v, c.scale, c.sack, c.ok)
	}
}

// All six lowest bits below any clock, and the same with a bit more than there is
// in a word.
func TestStampInOfAllLowBits(t *testing.T) {
	marked := 0
	for _, clock := range []int{0, 1, 2, 5, 1 << 10, 1 << 25, mostClock - 1, mostClock} {
		for low := range clockWeight {
			v := clock*clockWeight + low
			switch {
			case low < markWeight:
				checkNoStamp(t, v)
			case low%sackWeight == 15:
				checkStampIn(t, v, -1, low == 63, true)
				marked++
			default:
				checkStampIn(t, v, low%sackWeight, low >= markWeight+sackWeight, true)
				marked++
			}
			for bit := 32; bit < 64; bit++ {
				checkNoStamp(t, v|int(uint64(1)<<bit))
			}
			checkNoStamp(t, v-all)
			checkNoStamp(t, v+all)
			checkNoStamp(t, -v-1)
		}
	}
	if marked != 8*markWeight {
		t.Errorf("only %d of the words are stamps", marked)
	}
	for v := -70000; v < 70000; v++ {
		scale, sack, ok := stampAt(v)
		checkStampIn(t, v, scale, sack, ok)
	}
	for _, v := range slices.Concat(stampWords, farInts, tupleNumbers, stampFields) {
		scale, sack, ok := stampAt(v)
		checkStampIn(t, v, scale, sack, ok)
	}
	for seed := range 20000 {
		for _, v := range []int{someInt(seed), someInt(seed) & mostIp, someInt(seed)&mostIp | markWeight} {
			scale, sack, ok := stampAt(v)
			checkStampIn(t, v, scale, sack, ok)
		}
	}
}

func TestStampsComeBack(t *testing.T) {
	for _, clock := range []int{0, 1, 67108863, 67108864, -1, math.MinInt, math.MaxInt} {
		for scale := -1; scale <= 15; scale++ {
			for _, sack := range bools {
				wantScale := scale
				if scale == 15 {
					wantScale = -1
				}
				gotScale, gotSack, ok := impl.StampIn(impl.StampOf(clock, scale, sack))
				if gotScale != wantScale || gotSack != sack || !ok {
					t.Errorf("StampIn(StampOf(%d, %d, %v)) = %d, %v, %v", clock, scale, sack, gotScale, gotSack, ok)
				}
			}
		}
	}
	for _, clock := range slices.Concat(stampClocks, farInts, tupleNumbers) {
		for _, scale := range slices.Concat(stampScales, farInts) {
			for _, sack := range bools {
				checkBack(t, clock, scale, sack)
			}
		}
	}
	for seed := range 20000 {
		checkBack(t, someInt(seed), someInt(seed+1), seed%2 == 0)
		checkBack(t, someInt(seed), seed%16-1, seed%3 == 0)
	}
}

// A word that was taken apart is put together again, with its own clock and with
// those that begin again at the same place.
func TestStampsOfTheirParts(t *testing.T) {
	for seed := range 5000 {
		v := someInt(seed)&mostIp | markWeight
		scale, sack, _ := impl.StampIn(v)
		if got := impl.StampOf(v/clockWeight, scale, sack); got != v {
			t.Errorf("the parts of %d are put together to %d", v, got)
		}
		for _, more := range []int{1, -1, 3, -1 << 20, 1 << 31} {
			if got := impl.StampOf(v/clockWeight+more*(mostClock+1), scale, sack); got != v {
				t.Errorf("the parts of %d, and a clock that began again, are put together to %d", v, got)
			}
		}
	}
}

// No two of the 32 pairs of an encoded scale and a sack have the same stamp, and
// no two clocks that a stamp has room for.
func TestStampsAreApart(t *testing.T) {
	for _, clock := range []int{0, 1, mostClock, -1, math.MinInt} {
		found := map[int]bool{}
		for scale := range 16 {
			for _, sack := range bools {
				found[impl.StampOf(clock, scale, sack)] = true
			}
		}
		if len(found) != 32 {
			t.Errorf("at the clock %d, there are %d stamps", clock, len(found))
		}
	}
	found := map[int]int{}
	for n := range 26 {
		for _, clock := range []int{1 << n, 1<<n + 1, mostClock - 1<<n} {
			v := impl.StampOf(clock, 7, true)
			if other, ok := found[v]; ok && other != clock {
				t.Errorf("the clocks %d and %d have the stamp %d", clock, other, v)
			}
			found[v] = clock
		}
	}
}

// An absent scale and one that there is no room for are the same in a stamp; an
// absent one and the scale 0 are not.
func TestStampsOfAbsentScales(t *testing.T) {
	for _, clock := range stampClocks {
		for _, sack := range bools {
			absent := impl.StampOf(clock, -1, sack)
			for _, scale := range stampScales {
				if v := impl.StampOf(clock, scale, sack); (v == absent) == isScale(scale) {
					t.Errorf("StampOf(%d, %d, %v) = %d, and with no scale %d", clock, scale, sack, v, absent)
				}
			}
			zero := impl.StampOf(clock, 0, sack)
			if scale, _, ok := impl.StampIn(zero); scale != 0 || !ok || absent-zero != 15 {
				t.Errorf("the scale 0 comes back as %d, %v from %d beside %d", scale, ok, zero, absent)
			}
		}
		with, without := impl.StampOf(clock, 0, true), impl.StampOf(clock, 0, false)
		if with-without != sackWeight || impl.StampOf(clock, 15, true)-impl.StampOf(clock, 15, false) != sackWeight {
			t.Errorf("at the clock %d, the stamps of the scale 0 are %d and %d", clock, with, without)
		}
	}
}

// One of the lowest six bits of a stamp is another one, or one above them.
func TestStampsWithOneBitChanged(t *testing.T) {
	for _, clock := range stampClocks {
		for scale := -1; scale <= 14; scale++ {
			for _, sack := range bools {
				v := impl.StampOf(clock, scale, sack)
				for bit := range 4 {
					checkStampIn(t, v^1<<bit, scaleBack((scale&15)^1<<bit), sack, true)
				}
				checkStampIn(t, v^sackWeight, scale, !sack, true)
				checkNoStamp(t, v^markWeight)
				for bit := 6; bit < 32; bit++ {
					checkStampIn(t, v^1<<bit, scale, sack, true)
				}
				for bit := 32; bit < 64; bit++ {
					checkNoStamp(t, v^int(uint64(1)<<bit))
				}
			}
		}
	}
}

func TestAnswerOptions(t *testing.T) {
	for _, c := range []struct {
		o     impl.Options
		clock int
		want  impl.Options
	}{
		{impl.Options{}, 0, impl.Options{Mss: 1460, Scale: -1}},
		{impl.Options{Scale: -1}, 5, impl.Options{Mss: 1460, Scale: -1}},
		{impl.Options{Mss: 536, Scale: 7, Sack: true}, 5, impl.Options{Mss: 1460, Scale: -1}},
		{impl.Options{Mss: 9000, Scale: 7, Sack: true, Val: 3, Echo: 4}, 5, impl.Options{Mss: 1460, Scale: -1}},
		{impl.Options{Stamp: true}, 0, impl.Options{Mss: 1460, Scale: 0, Stamp: true, Val: 32}},
		{impl.Options{Scale: -1, Stamp: true}, 0, impl.Options{Mss: 1460, Scale: -1, Stamp: true, Val: 47}},
		{impl.Options{Scale: -1, Sack: true, Stamp: true, Val: 8, Echo: 9}, 2, impl.Options{Mss: 1460, Scale: -1, Sack: true, Stamp: true, Val: 191, Echo: 8}},
		{impl.Options{Mss: 536, Scale: 0, Sack: true, Stamp: true, Val: 8}, 2, impl.Options{Mss: 1460, Scale: 0, Sack: true, Stamp: true, Val: 176, Echo: 8}},
		{impl.Options{Mss: 65535, Scale: 14, Stamp: true, Val: 4294967295, Echo: 1}, 67108863, impl.Options{Mss: 1460, Scale: 0, Stamp: true, Val: 4294967278, Echo: 4294967295}},
		{impl.Options{Scale: 15, Stamp: true, Val: 1, Echo: 4294967295}, 1, impl.Options{Mss: 1460, Scale: -1, Stamp: true, Val: 111, Echo: 1}},
		{impl.Options{Scale: 16, Stamp: true, Val: 1}, 1, impl.Options{Mss: 1460, Scale: -1, Stamp: true, Val: 111, Echo: 1}},
		{impl.Options{Scale: -2, Stamp: true, Val: 1}, 1, impl.Options{Mss: 1460, Scale: -1, Stamp: true, Val: 111, Echo: 1}},
		{impl.Options{Mss: -1, Scale: math.MinInt, Sack: true, Stamp: true, Val: -1}, -1, impl.Options{Mss: 1460, Scale: -1, Sack: true, Stamp: true, Val: 4294967295, Echo: -1}},
		{impl.Options{Mss: 65536, Scale: math.MaxInt, Stamp: true, Val: 4294967296, Echo: -1}, math.MinInt, impl.Options{Mss: 1460, Scale: -1, Stamp: true, Val: 47, Echo: 4294967296}},
		{impl.Options{Scale: 1, Stamp: true, Val: math.MinInt, Echo: math.MaxInt}, math.MaxInt, impl.Options{Mss: 1460, Scale: 0, Stamp: true, Val: 4294967265, Echo: math.MinInt}},
	} {
		checkAnswerOptions(t, c.o, c.clock, c.want)
	}
}

// Without a stamp, the answer is the same whatever the other fields are.
func TestAnswerOptionsWithoutStamp(t *testing.T) {
	want := impl.NoOptions()
	want.Mss = impl.OwnMss
	seen := 0
	optionsOfFields(func(o impl.Options) {
		if o.Stamp {
			return
		}
		seen++
		for _, clock := range []int{0, 1, mostClock + 1, -1, math.MinInt, math.MaxInt} {
			checkAnswerOptions(t, o, clock, want)
		}
	})
	if seen != 6*6*6*6*2 {
		t.Errorf("only %d options", seen)
	}
	for _, n := range slices.Concat(farInts, scaleFields, stampFields) {
		for _, o := range []impl.Options{{Mss: n, Scale: -1}, {Scale: n}, {Scale: n, Sack: true}, {Scale: 7, Val: n}, {Scale: 7, Echo: n}, {Mss: n, Scale: n, Sack: true, Val: n, Echo: n}} {
			for _, clock := range stampClocks {
				checkAnswerOptions(t, o, clock, want)
			}
		}
	}
}

// With a stamp, each field of the answer follows from one field of the SYN, and
// the Val from three things.
func TestAnswerOptionsOfEachField(t *testing.T) {
	for _, clock := range []int{0, 1, 1000, mostClock, mostClock + 1, -1, math.MinInt, math.MaxInt} {
		for _, scale := range stampScales {
			wantScale := -1
			if isScale(scale) {
				wantScale = 0
			}
			for _, sack := range bools {
				for _, val := range []int{0, 1, 5, 4294967295, 4294967296, -1, math.MinInt, math.MaxInt} {
					for _, echo := range []int{0, 1, 6, 4294967295, 4294967296, -1, val} {
						o := impl.Options{Mss: 536, Scale: scale, Sack: sack, Stamp: true, Val: val, Echo: echo}
						checkAnswerOptions(t, o, clock, impl.Options{Mss: 1460, Scale: wantScale, Sack: sack, Stamp: true, Val: impl.StampOf(clock, scale, sack), Echo: val})
					}
				}
			}
		}
	}
	for _, mss := range mssFields {
		for _, scale := range []int{-1, 0, 14, 15} {
			checkAnswerOptions(t, impl.Options{Mss: mss, Scale: scale, Stamp: true, Val: 5, Echo: 6}, 3, impl.Options{Mss: 1460, Scale: min(scaleBack(scale), 0), Stamp: true, Val: stampFor(3, scale, false), Echo: 5})
		}
	}
	optionsOfFields(func(o impl.Options) {
		for _, clock := range []int{0, 3, mostClock + 1, -1} {
			checkAnswerOptions(t, o, clock, answerFor(o, clock))
		}
	})
}

// Val and Echo are exchanged, or equal: the Echo of a SYN is not echoed.
func TestAnswersOfOtherStamps(t *testing.T) {
	for _, val := range stampFields {
		for _, echo := range stampFields {
			a := impl.AnswerOptions(impl.Options{Scale: 7, Stamp: true, Val: val, Echo: echo}, 9)
			b := impl.AnswerOptions(impl.Options{Scale: 7, Stamp: true, Val: echo, Echo: val}, 9)
			if a.Echo != val || b.Echo != echo || a.Val != b.Val || (a == b) != (val == echo) {
				t.Errorf("a SYN with %d and %d is answered by %+v, with both exchanged by %+v", val, echo, a, b)
			}
		}
	}
}

// The answer to a SYN that was read can be sent.
func TestAnswersAreValid(t *testing.T) {
	check := func(o impl.Options, clock int) {
		t.Helper()
		answer := impl.AnswerOptions(o, clock)
		if read, ok := impl.ReadOptions(impl.OptionsText(answer)); !impl.OptionsOk(answer) || read != answer || !ok {
			t.Errorf("AnswerOptions(%+v, %d) = %+v, of which %+v is read", o, clock, answer, read)
		}
		// An Echo that does not fit is that of the peer.
		o.Val = mostIp + 1
		if answer = impl.AnswerOptions(o, clock); impl.OptionsOk(answer) == o.Stamp {
			t.Errorf("AnswerOptions(%+v, %d) = %+v, and OptionsOk of it is %v", o, clock, answer, impl.OptionsOk(answer))
		}
	}
	for seed := range 2000 {
		check(someOptions(seed), someInt(seed))
	}
	for _, clock := range stampClocks {
		for _, o := range []impl.Options{noOptions, allOptions, {}, {Stamp: true}, {Scale: -1, Stamp: true, Val: mostIp, Echo: mostIp}} {
			check(o, clock)
		}
	}
}

func TestLearnedOptions(t *testing.T) {
	for _, c := range []struct {
		i    int
		o    impl.Options
		want impl.Options
	}{
		{0, impl.Options{}, impl.Options{Mss: 64, Scale: -1}},
		{2, impl.Options{Mss: 1460, Scale: 7, Sack: true}, impl.Options{Mss: 536, Scale: -1}},
		{2, impl.Options{Mss: 1460, Scale: 7, Sack: true, Val: 5, Echo: 39}, impl.Options{Mss: 536, Scale: -1}},
		{2, impl.Options{Scale: -1, Stamp: true, Val: 5, Echo: 39}, impl.Options{Mss: 536, Scale: 7, Stamp: true, Val: 5}},
		{3, impl.Options{Scale: -1, Stamp: true, Val: 5, Echo: 55}, impl.Options{Mss: 1024, Scale: 7, Sack: true, Stamp: true, Val: 5}},
		{7, impl.Options{Scale: -1, Stamp: true, Echo: 32}, impl.Options{Mss: 1460, Scale: 0, Stamp: true}},
		{7, impl.Options{Scale: -1, Stamp: true, Echo: 48}, impl.Options{Mss: 1460, Scale: 0, Sack: true, Stamp: true}},
		{7, impl.Options{Scale: 3, Sack: true, Stamp: true, Val: 1, Echo: 47}, impl.Options{Mss: 1460, Scale: -1, Stamp: true, Val: 1}},
		{7, impl.Options{Scale: 3, Stamp: true, Val: 1, Echo: 63}, impl.Options{Mss: 1460, Scale: -1, Sack: true, Stamp: true, Val: 1}},
		{1, impl.Options{Mss: 9, Scale: 3, Sack: true, Stamp: true, Val: 7, Echo: 0}, impl.Options{Mss: 256, Scale: -1}},
		{1, impl.Options{Mss: 9, Scale: 3, Sack: true, Stamp: true, Val: 7, Echo: 31}, impl.Options{Mss: 256, Scale: -1}},
		{1, impl.Options{Mss: 9, Scale: 3, Sack: true, Stamp: true, Val: 7, Echo: 95}, impl.Options{Mss: 256, Scale: -1}},
		{1, impl.Options{Mss: 9, Scale: 3, Sack: true, Stamp: true, Val: 7, Echo: -1}, impl.Options{Mss: 256, Scale: -1}},
		{1, impl.Options{Mss: 9, Scale: 3, Sack: true, Stamp: true, Val: 7, Echo: 4294967296}, impl.Options{Mss: 256, Scale: -1}},
		{1, impl.Options{Mss: 9, Scale: 3, Sack: true, Stamp: true, Val: 7, Echo: 4294967328}, impl.Options{Mss: 256, Scale: -1}},
		{4, impl.Options{Scale: -1, Stamp: true, Val: 4294967295, Echo: 4294967295}, impl.Options{Mss: 1300, Scale: -1, Sack: true, Stamp: true, Val: 4294967295}},
		{5, impl.Options{Scale: -1, Stamp: true, Val: 39, Echo: 96}, impl.Options{Mss: 1400, Scale: 0, Stamp: true, Val: 39}},
		{6, impl.Options{Stamp: true, Val: -1, Echo: 46}, impl.Options{Mss: 1440, Scale: 14, Stamp: true, Val: -1}},
		{-1, impl.Options{Stamp: true, Val: math.MinInt, Echo: 46}, impl.Options{Scale: 14, Stamp: true, Val: math.MinInt}},
		{8, impl.Options{Stamp: true, Val: math.MaxInt, Echo: 62}, impl.Options{Scale: 14, Sack: true, Stamp: true, Val: math.MaxInt}},
		{-1, impl.Options{Mss: 1460, Stamp: true}, impl.Options{Scale: -1}},
		{8, impl.Options{Mss: 1460}, impl.Options{Scale: -1}},
		{math.MinInt, impl.Options{}, impl.Options{Scale: -1}},
		{math.MaxInt, impl.Options{}, impl.Options{Scale: -1}},
	} {
		checkLearned(t, c.i, c.o, c.want)
	}
}

// Every index stands beside every Echo, with a stamp and without.
func TestLearnedOptionsOfEachIndex(t *testing.T) {
	learned := 0
	for _, i := range append([]int{-1, 0, 1, 2, 3, 4, 5, 6, 7, 8, 9, 15, 64, 1460}, farInts...) {
		for _, echo := range slices.Concat(stampWords, stampFields) {
			scale, sack, ok := impl.StampIn(echo)
			for _, val := range []int{0, 1, 5, mostIp, mostIp + 1, -1, echo} {
				for _, o := range []impl.Options{{Scale: -1}, {Mss: 1024, Scale: 5}, {Scale: 5, Sack: true}, {Mss: -1, Scale: 15, Sack: true}} {
					o.Val, o.Echo = val, echo
					checkNothingLearned(t, i, o)
					o.Stamp = true
					if !ok {
						checkNothingLearned(t, i, o)
						continue
					}
					checkLearned(t, i, o, impl.Options{Mss: impl.MssOf(i), Scale: scale, Sack: sack, Stamp: true, Val: val})
					learned++
				}
			}
		}
	}
	if learned < 10000 {
		t.Errorf("only %d times something is learned", learned)
	}
}

// Nothing of the ACK counts but Stamp, Val and Echo: the peer has said the rest in
// its SYN.
func TestLearnedOptionsOfOtherFields(t *testing.T) {
	for i := -1; i <= 8; i++ {
		for _, echo := range []int{32, 39, 47, 48, 63, 96, mostIp, 31, 0, -1, mostIp + 1} {
			for _, stamp := range bools {
				plain := impl.LearnedOptions(i, impl.Options{Stamp: stamp, Val: 77, Echo: echo})
				for _, mss := range mssFields {
					for _, scale := range scaleFields {
						for _, sack := range bools {
							o := impl.Options{Mss: mss, Scale: scale, Sack: sack, Stamp: stamp, Val: 77, Echo: echo}
							if got := impl.LearnedOptions(i, o); got != plain || got != learnedFrom(i, o) {
								t.Errorf("LearnedOptions(%d, %+v) = %+v, and with no other fields %+v", i, o, got, plain)
							}
						}
					}
				}
			}
		}
	}
	optionsOfFields(func(o impl.Options) {
		for i := -1; i <= 8; i++ {
			checkLearned(t, i, o, learnedFrom(i, o))
		}
	})
}

// Val and Echo are exchanged where one of them, or both, or none is a stamp.
func TestLearnedOptionsOfExchangedStamps(t *testing.T) {
	for _, val := range stampWords {
		for _, echo := range stampWords {
			a := impl.LearnedOptions(5, impl.Options{Scale: -1, Stamp: true, Val: val, Echo: echo})
			b := impl.LearnedOptions(5, impl.Options{Scale: -1, Stamp: true, Val: echo, Echo: val})
			_, _, echoIs := stampAt(echo)
			_, _, valIs := stampAt(val)
			if a.Stamp != echoIs || b.Stamp != valIs || a.Echo != 0 || b.Echo != 0 || a.Val != numberIf(echoIs, val) || b.Val != numberIf(valIs, echo) {
				t.Errorf("of %d and %d, there is learned %+v, and of both exchanged %+v", val, echo, a, b)
			}
			if (echoIs || valIs) && (a == b) != (val == echo) {
				t.Errorf("of %d and %d, there is learned %+v, and of both exchanged %+v", val, echo, a, b)
			}
		}
	}
}

// What a SYN says is learned again from an ACK that echoes the answer.
func TestOptionsComeBack(t *testing.T) {
	back := 0
	check := func(o impl.Options, clock, i, val int) {
		t.Helper()
		answer := impl.AnswerOptions(o, clock)
		got := impl.LearnedOptions(i, ackOf(val, answer))
		if !o.Stamp {
			// There is nothing to echo: the peer has a stamp only if it makes one up.
			if got != learnedFrom(i, impl.Options{}) {
				t.Errorf("of %+v at the clock %d, there is learned %+v", o, clock, got)
			}
			return
		}
		want := impl.Options{Mss: impl.MssOf(i), Scale: scaleBack(o.Scale), Sack: o.Sack, Stamp: o.Stamp, Val: val}
		if got != want {
			t.Errorf("of %+v at the clock %d, there is learned %+v, want %+v", o, clock, got, want)
		}
		// A peer is told that its scale counts only where it does.
		if (answer.Scale == 0) != isScale(o.Scale) || (got.Scale != -1) != isScale(o.Scale) {
			t.Errorf("the scale %d is answered by %d and comes back as %d", o.Scale, answer.Scale, got.Scale)
		}
		back++
	}
	for _, clock := range stampClocks {
		for _, scale := range stampScales {
			for _, sack := range bools {
				for _, stamp := range bools {
					for i := -1; i <= 8; i++ {
						check(impl.Options{Mss: 700, Scale: scale, Sack: sack, Stamp: stamp, Val: 5, Echo: 6}, clock, i, 7)
					}
				}
			}
		}
	}
	for seed := range 20000 {
		check(someOptions(seed), someInt(seed), seed%10-1, someInt(seed+1))
	}
	if back < 30000 {
		t.Errorf("only %d options come back", back)
	}
}

// At one clock, nothing but the scale and the sack of a SYN tells the stamps of the
// answers apart, and a peer that echoes another peer's stamp is taken for one with
// the other's options.
func TestOptionsOfOtherStamps(t *testing.T) {
	for scale := -1; scale <= 14; scale++ {
		for other := -1; other <= 14; other++ {
			for _, sack := range bools {
				for _, otherSack := range bools {
					a := impl.AnswerOptions(impl.Options{Mss: 700, Scale: scale, Sack: sack, Stamp: true, Val: 1}, 5)
					b := impl.AnswerOptions(impl.Options{Scale: other, Sack: otherSack, Stamp: true, Val: 2, Echo: 3}, 5)
					if (a.Val == b.Val) != (scale == other && sack == otherSack) {
						t.Errorf("the scales %d and %d with %v and %v are answered by %d and %d", scale, other, sack, otherSack, a.Val, b.Val)
					}
					learned := impl.LearnedOptions(2, ackOf(9, b))
					if learned != (impl.Options{Mss: 536, Scale: other, Sack: otherSack, Stamp: true, Val: 9}) {
						t.Errorf("of %+v, there is learned %+v", b, learned)
					}
				}
			}
		}
	}
}

// A SYN, its answer and the ACK are sent as segments; the index comes back in a
// cookie, and the keys change in between.
func TestOptionsComeBackInSegments(t *testing.T) {
	for seed := range 600 {
		opts := someOptions(seed)
		syn, ok := impl.ReadSegment(impl.SegmentText(impl.Segment{From: 40000, To: 80, Seq: cookieSeq, Flags: impl.FlSyn, Window: 512, Opts: opts}, fromIp, toIp), fromIp, toIp)
		if !ok || syn.Opts != opts {
			t.Fatalf("a SYN with %+v is read as %+v, %v", opts, syn, ok)
		}
		keys, peer := impl.Keys{Epoch: 31, Now: impl.KeyMac(someWord(seed), 5)}, impl.TupleOf(fromIp, syn)
		cookie := impl.CookieOf(keys.Now, peer, syn.Seq, keys.Epoch, impl.MssIndex(syn.Opts.Mss))
		answer := impl.Segment{From: 80, To: 40000, Seq: cookie, Ack: syn.Seq + 1, Flags: impl.FlSyn | impl.FlAck, Window: 512, Opts: impl.AnswerOptions(syn.Opts, someInt(seed))}
		answer, ok = impl.ReadSegment(impl.SegmentText(answer, toIp, fromIp), toIp, fromIp)
		if !ok {
			t.Fatalf("the answer to %+v is not read", opts)
		}
		ack := impl.Segment{From: 40000, To: 80, Seq: syn.Seq + 1, Ack: impl.SeqAdd(cookie, 1), Flags: impl.FlAck, Window: 512, Opts: impl.NoOptions()}
		if answer.Opts.Stamp {
			ack.Opts = ackOf(seed, answer.Opts)
		}
		ack, ok = impl.ReadSegment(impl.SegmentText(ack, fromIp, toIp), fromIp, toIp)
		keys = impl.Rotated(keys, impl.KeyMac(7, 8))
		_, i, taken := impl.CheckCookie(keys, peer, impl.SeqAdd(ack.Seq, -1), impl.SeqAdd(ack.Ack, -1))
		if !ok || !taken {
			t.Fatalf("the ACK %s is not taken: %v, %v", segmentShown(ack), ok, taken)
		}
		want := impl.Options{Mss: mssSizes[indexOf(opts.Mss)], Scale: -1}
		if opts.Stamp {
			want = impl.Options{Mss: want.Mss, Scale: opts.Scale, Sack: opts.Sack, Stamp: true, Val: seed}
		}
		if got := impl.LearnedOptions(i, ack.Opts); got != want || !impl.OptionsOk(got) {
			t.Errorf("of a SYN with %+v, there is learned %+v, want %+v", opts, got, want)
		}
	}
}

// Every function returns, and returns the same again, whatever it is given.
func TestStampsAreTotal(t *testing.T) {
	defer func() {
		if r := recover(); r != nil {
			t.Fatalf("panic: %v", r)
		}
	}()
	for at, n := range farInts {
		for other, m := range farInts {
			checkBack(t, n, m, at%2 == 0)
			scale, sack, ok := stampAt(n ^ m)
			checkStampIn(t, n^m, scale, sack, ok)
			for _, o := range []impl.Options{
				{Mss: n, Scale: m, Sack: at%2 == 0, Stamp: other%2 == 0, Val: n, Echo: m}, {Mss: m, Scale: n, Stamp: true, Val: m, Echo: n}, {Scale: m, Sack: true, Stamp: true, Val: n, Echo: n}, {Scale: -1, Val: m, Echo: m},
			} {
				for _, k := range []int{n, m, at % 10} {
					checkAnswerOptions(t, o, k, answerFor(o, k))
					checkLearned(t, k, o, learnedFrom(k, o))
				}
			}
		}
	}
	for seed := range 20000 {
		o := impl.Options{Mss: someInt(seed), Scale: someInt(seed + 1), Sack: seed%3 == 0, Stamp: seed%5 > 0, Val: someInt(seed + 2), Echo: someInt(seed + 3)}
		checkAnswerOptions(t, o, someInt(seed+4), answerFor(o, someInt(seed+4)))
		checkLearned(t, seed%11-1, o, learnedFrom(seed%11-1, o))
		checkLearned(t, someInt(seed+5), o, learnedFrom(someInt(seed+5), o))
	}
}

// The same call answers the same, however often it is repeated, and whatever was
// called in between.
func TestStampsRepeat(t *testing.T) {
	syn := impl.Options{Mss: 700, Scale: 7, Sack: true, Stamp: true, Val: 5, Echo: 6}
	for n := range 5000 {
		if v := impl.StampOf(3, 7, true); v != 247 {
			t.Fatalf("StampOf(3, 7, true) = %d after %d times", v, n)
		}
		impl.StampOf(n, n%17-1, n%2 == 0)
		if scale, sack, ok := impl.StampIn(247); scale != 7 || !sack || !ok {
			t.Fatalf("StampIn(247) = %d, %v, %v after %d times", scale, sack, ok, n)
		}
		impl.StampIn(n)
		answer := impl.AnswerOptions(syn, 3)
		if answer != (impl.Options{Mss: 1460, Sack: true, Stamp: true, Val: 247, Echo: 5}) {
			t.Fatalf("AnswerOptions(%+v, 3) = %+v after %d times", syn, answer, n)
		}
		impl.AnswerOptions(someOptions(n), n)
		if learned := impl.LearnedOptions(2, ackOf(9, answer)); learned != (impl.Options{Mss: 536, Scale: 7, Sack: true, Stamp: true, Val: 9}) {
			t.Fatalf("LearnedOptions(2, ..) = %+v after %d times", learned, n)
		}
		impl.LearnedOptions(n%10-1, someOptions(n))
	}
}

// No call depends on other calls, before it or at the same time.
func TestStampsKeepNothing(t *testing.T) {
	checkAtOnce(t, func(worker int, faults map[string]int) {
		for n := range 2000 {
			seed := n + 31*worker
			o, clock := someOptions(seed), someInt(seed)
			v := impl.StampOf(clock, seed%16, seed%2 == 0)
			if v != stampFor(clock, seed%16, seed%2 == 0) {
				faults["StampOf"]++
			}
			if scale, sack, ok := impl.StampIn(v); scale != scaleBack(seed%16) || sack != (seed%2 == 0) || !ok {
				faults["StampIn"]++
			}
			answer := impl.AnswerOptions(o, clock)
			if answer != answerFor(o, clock) {
				faults["AnswerOptions"]++
			}
			if impl.LearnedOptions(seed%10-1, ackOf(n, answer)) != learnedFrom(seed%10-1, ackOf(n, answer)) {
				faults["LearnedOptions"]++
			}
		}
	})
}
