package tests

import (
	"encoding/binary"
	"math/bits"
	"slices"
	"strings"
	"sync"
	"testing"

	"loop.example/g00504/impl"
)

const most = 1<<64 - 1

// The key of the bytes 0, 1, .., 15, which the known vectors have.
const (
	knownK = 0x0706050403020100
	knownL = 0x0f0e0d0c0b0a0908
)

// knownHashes are the published hashes of the bytes 0, 1, .., n - 1 by the known
// key.
var knownHashes = []uint64{
	0x726fdb47dd0e0e31, 0x74f839c593dc67fd, 0x0d6c8009d9a94f5a, 0x85676696d7fb7e2d,
	0xcf2794e0277187b7, 0x18765564cd99a68d, 0xcbc9466e58fee3ce, 0xab0200f58b01d137,
	0x93f5f5799a932462, 0x9e0082df0ba9e4b0, 0x7a5dbbc594ddb9f3, 0xf4b32f46226bada7,
	0x751e8fbc860ee5fb, 0x14ea5627c0843d90, 0xf723ca908e7af2ee, 0xa129ca6149be45e5,
	0x3f2acc7f57c29bdb, 0x699ae9f52cbe4794, 0x4bc1b3f0968dd39c, 0xbb6dc91da77961bd,
	0xbed65cf21aa2ee98, 0xd0f2cbb02e3b67c7, 0x93536795e3a33e88, 0xa80c038ccd5ccec8,
	0xb8ad50c6f649af94, 0xbce192de8a85b8ea, 0x17d835b85bbb15f3, 0x2f2e6163076bcfad,
	0xde4daaaca71dc9a5, 0xa6a2506687956571, 0xad87a3535c49ef28, 0x32d892fad841c342,
	0x7127512f72f27cce, 0xa7f32346f95978e3, 0x12e0b01abb051238, 0x15e034d40fa197ae,
	0x314dffbe0815a3b4, 0x027990f029623981, 0xcadcd4e59ef40c4d, 0x9abfd8766a33735c,
	0x0e3ea96b5304a7d0, 0xad0c42d6fc585992, 0x187306c89bc215a9, 0xd4a60abcf3792b95,
	0xf935451de4f21df2, 0xa9538f0419755787, 0xdb9acddff56ca510, 0xd06c98cd5c0975eb,
	0xe612a3cb9ecba951, 0xc766e62cfcadaf96, 0xee64435a9752fe72, 0xa192d576b245165a,
	0x0a8787bf8ecb74b2, 0x81b3e73d20b49b6f, 0x7fa8220ba3b2ecea, 0x245731c13ca42499,
	0xb78dbfaf3a8d83bd, 0xea1ad565322a1a0b, 0x60e61c23a3795013, 0x6606d7e446282b93,
	0x6ca4ecb15c5f91e1, 0x9f626da15c9625f3, 0xe51b38608ef25f57, 0x958a324ceb064572,
}

// sipEdges are words whose sums wrap around and whose rotations carry bits over
// the top.
var sipEdges = []uint64{0, 1, 1 << 31, 1 << 32, 1 << 63, most}

// sipKeys are the ends of the halves of a key, and of the words of a text.
var sipKeys = []uint64{0, 1, 1 << 63, most}

// sipSizes are lengths at which the number of words of a text, or the byte of
// its length, changes.
var sipSizes = []int{0, 1, 7, 8, 9, 15, 16, 17, 255, 256, 257, 511, 512, 513}

// sipFills are the bytes at both ends of the signed and the unsigned ones.
var sipFills = []byte{0, 127, 128, 255}

// The places of the words in sipWords.
const (
	placeA = iota
	placeB
	placeC
	placeD
)

// sipSteps are the document's steps of a round, each of which changes the word
// at to: '+' adds and '^' takes the exclusive or with the word at with, '<'
// rotates to the left by with bits.
var sipSteps = []struct {
	op       byte
	to, with int
}{
	{'+', placeA, placeB}, {'<', placeB, 13}, {'^', placeB, placeA}, {'<', placeA, 32},
	{'+', placeC, placeD}, {'<', placeD, 16}, {'^', placeD, placeC},
	{'+', placeA, placeD}, {'<', placeD, 21}, {'^', placeD, placeA},
	{'+', placeC, placeB}, {'<', placeB, 17}, {'^', placeB, placeC}, {'<', placeC, 32},
}

func sipOf(a, b, c, d uint64) impl.Sip { return impl.Sip{A: a, B: b, C: c, D: d} }

func sipWords(s impl.Sip) [4]uint64 { return [4]uint64{s.A, s.B, s.C, s.D} }

// roundForth takes the steps of a round, one by one.
func roundForth(s impl.Sip) impl.Sip {
	w := sipWords(s)
	for _, step := range sipSteps {
		switch step.op {
		case '+':
			w[step.to], _ = bits.Add64(w[step.to], w[step.with], 0)
		case '^':
			w[step.to] = w[step.to]&^w[step.with] | w[step.with]&^w[step.to]
		case '<':
			w[step.to] = w[step.to]<<step.with | w[step.to]>>(64-step.with)
		}
	}
	return sipOf(w[placeA], w[placeB], w[placeC], w[placeD])
}

// roundBack takes the steps of a round back, from the last one to the first.
func roundBack(s impl.Sip) impl.Sip {
	w := sipWords(s)
	for _, step := range slices.Backward(sipSteps) {
		switch step.op {
		case '+':
			w[step.to], _ = bits.Sub64(w[step.to], w[step.with], 0)
		case '^':
			w[step.to] = w[step.to]&^w[step.with] | w[step.with]&^w[step.to]
		case '<':
			w[step.to] = w[step.to]>>step.with | w[step.to]<<(64-step.with)
		}
	}
	return sipOf(w[placeA], w[placeB], w[placeC], w[placeD])
}

func wordForth(s impl.Sip, m uint64) impl.Sip {
	s = roundForth(roundForth(sipOf(s.A, s.B, s.C, s.D^m)))
	return sipOf(s.A^m, s.B, s.C, s.D)
}

func wordBack(s impl.Sip, m uint64) impl.Sip {
	s = roundBack(roundBack(sipOf(s.A^m, s.B, s.C, s.D)))
	return sipOf(s.A, s.B, s.C, s.D^m)
}

func endOf(s impl.Sip) uint64 {
	s.C ^= 255
	for range 4 {
		s = roundForth(s)
	}
	return s.A ^ s.B ^ s.C ^ s.D
}

// startOf takes the words to begin with from the text that they are.
func startOf(k, l uint64) impl.Sip {
	text := []byte("somepseudorandomlygeneratedbytes")
	word := func(i int) uint64 { return binary.BigEndian.Uint64(text[8*i:]) }
	return sipOf(k^word(0), l^word(1), k^word(2), l^word(3))
}

// hashOf fills text up with zero bytes and the length to whole words, which it
// reads as encoding/binary does.
func hashOf(k, l uint64, text string) uint64 {
	whole := make([]byte, len(text)/8*8+8)
	copy(whole, text)
	whole[len(whole)-1] = byte(len(text) % 256)
	s := startOf(k, l)
	for ; len(whole) > 0; whole = whole[8:] {
		s = wordForth(s, binary.LittleEndian.Uint64(whole))
	}
	return endOf(s)
}

// someWord returns words of all magnitudes in an irregular, repeatable order.
func someWord(seed int) uint64 { return uint64(someInt(seed)) }

func someSip(seed int) impl.Sip {
	return sipOf(someWord(4*seed), someWord(4*seed+1), someWord(4*seed+2), someWord(4*seed+3))
}

// edgeSips returns all Sips of words of sipEdges.
func edgeSips() []impl.Sip {
	var list []impl.Sip
	for _, a := range sipEdges {
		for _, b := range sipEdges {
			for _, c := range sipEdges {
				for _, d := range sipEdges {
					list = append(list, sipOf(a, b, c, d))
				}
			}
		}
	}
	return list
}

// withBit returns s with the bit n of its 256 bits changed.
func withBit(s impl.Sip, n int) impl.Sip {
	w := sipWords(s)
	w[n/64] ^= 1 << (n % 64)
	return sipOf(w[placeA], w[placeB], w[placeC], w[placeD])
}

// drawnSips returns all kinds of Sips: of edges, irregular ones, and ones that
// differ in one or two bits.
func drawnSips() []impl.Sip {
	list := edgeSips()
	for seed := range 20000 {
		list = append(list, someSip(seed))
	}
	for _, s := range []impl.Sip{{}, sipOf(most, most, most, most), someSip(7), impl.SipStart(knownK, knownL)} {
		for n := range 256 {
			list = append(list, withBit(s, n), withBit(withBit(s, n), (n*n+64)%256))
		}
	}
	return list
}

// checkRound checks all that is asked of a round.
func checkRound(t *testing.T, s impl.Sip) {
	t.Helper()
	before := s
	got := impl.SipRound(s)
	if want := roundForth(s); got != want {
		t.Errorf("SipRound(%#x) = %#x, want %#x", s, got, want)
	}
	if back := roundBack(got); back != before {
		t.Errorf("SipRound(%#x) = %#x, which was %#x before", before, got, back)
	}
	if again := impl.SipRound(s); again != got || s != before {
		t.Errorf("SipRound(%#x) = %#x, and then of %#x %#x", before, got, s, again)
	}
}

// checkSipWord checks all that is asked of a word.
func checkSipWord(t *testing.T, s impl.Sip, m uint64) {
	t.Helper()
	before := s
	got := impl.SipWord(s, m)
	if want := wordForth(s, m); got != want {
		t.Errorf("SipWord(%#x, %#x) = %#x, want %#x", s, m, got, want)
	}
	if back := wordBack(got, m); back != before {
		t.Errorf("SipWord(%#x, %#x) = %#x, which was %#x before", before, m, got, back)
	}
	twice := impl.SipRound(impl.SipRound(sipOf(s.A, s.B, s.C, s.D^m)))
	if twice.A ^= m; got != twice {
		t.Errorf("SipWord(%#x, %#x) = %#x, but its rounds return %#x", s, m, got, twice)
	}
	if again := impl.SipWord(s, m); again != got || s != before {
		t.Errorf("SipWord(%#x, %#x) = %#x, and then of %#x %#x", before, m, got, s, again)
	}
}

// checkSipEnd checks all that is asked of an end.
func checkSipEnd(t *testing.T, s impl.Sip) {
	t.Helper()
	before := s
	got := impl.SipEnd(s)
	if want := endOf(s); got != want {
		t.Errorf("SipEnd(%#x) = %#x, want %#x", s, got, want)
	}
	last := sipOf(s.A, s.B, s.C^255, s.D)
	for range 4 {
		last = impl.SipRound(last)
	}
	if got != last.A^last.B^last.C^last.D {
		t.Errorf("SipEnd(%#x) = %#x, but its rounds return %#x", s, got, last)
	}
	if again := impl.SipEnd(s); again != got || s != before {
		t.Errorf("SipEnd(%#x) = %#x, and then of %#x %#x", before, got, s, again)
	}
}

// checkHash checks all that is asked of the hash of a text.
func checkHash(t *testing.T, k, l uint64, text string) {
	t.Helper()
	got := impl.SipHash(k, l, text)
	if want := hashOf(k, l, text); got != want {
		t.Errorf("SipHash(%#x, %#x, %d bytes %.40q) = %#x, want %#x", k, l, len(text), text, got, want)
	}
	if again := impl.SipHash(k, l, text); again != got {
		t.Errorf("SipHash(%#x, %#x, %d bytes %.40q) = %#x, and then %#x", k, l, len(text), text, got, again)
	}
}

// checkApart checks that no two of the texts have the same hash.
func checkApart(t *testing.T, k, l uint64, texts []string) {
	t.Helper()
	found := map[uint64]string{}
	for _, text := range texts {
		checkHash(t, k, l, text)
		hash := impl.SipHash(k, l, text)
		if other, ok := found[hash]; ok && other != text {
			t.Errorf("SipHash of %d bytes %.40q and of %d bytes %.40q is %#x", len(text), text, len(other), other, hash)
		}
		found[hash] = text
	}
}

func TestSipStart(t *testing.T) {
	for _, c := range []struct {
		k, l uint64
		want impl.Sip
	}{
		{0, 0, sipOf(8317987319222330741, 7237128888997146477, 7816392313619706465, 8387220255154660723)},
		{0, 0, sipOf(0x736f6d6570736575, 0x646f72616e646f6d, 0x6c7967656e657261, 0x7465646279746573)},
		{0, 1, sipOf(0x736f6d6570736575, 0x646f72616e646f6c, 0x6c7967656e657261, 0x7465646279746572)},
		{0, 1 << 63, sipOf(0x736f6d6570736575, 0xe46f72616e646f6d, 0x6c7967656e657261, 0xf465646279746573)},
		{0, most, sipOf(0x736f6d6570736575, 0x9b908d9e919b9092, 0x6c7967656e657261, 0x8b9a9b9d868b9a8c)},
		{1, 0, sipOf(0x736f6d6570736574, 0x646f72616e646f6d, 0x6c7967656e657260, 0x7465646279746573)},
		{1, 1, sipOf(0x736f6d6570736574, 0x646f72616e646f6c, 0x6c7967656e657260, 0x7465646279746572)},
		{1, 1 << 63, sipOf(0x736f6d6570736574, 0xe46f72616e646f6d, 0x6c7967656e657260, 0xf465646279746573)},
		{1, most, sipOf(0x736f6d6570736574, 0x9b908d9e919b9092, 0x6c7967656e657260, 0x8b9a9b9d868b9a8c)},
		{1 << 63, 0, sipOf(0xf36f6d6570736575, 0x646f72616e646f6d, 0xec7967656e657261, 0x7465646279746573)},
		{1 << 63, 1, sipOf(0xf36f6d6570736575, 0x646f72616e646f6c, 0xec7967656e657261, 0x7465646279746572)},
		{1 << 63, 1 << 63, sipOf(0xf36f6d6570736575, 0xe46f72616e646f6d, 0xec7967656e657261, 0xf465646279746573)},
		{1 << 63, most, sipOf(0xf36f6d6570736575, 0x9b908d9e919b9092, 0xec7967656e657261, 0x8b9a9b9d868b9a8c)},
		{most, 0, sipOf(0x8c90929a8f8c9a8a, 0x646f72616e646f6d, 0x9386989a919a8d9e, 0x7465646279746573)},
		{most, 1, sipOf(0x8c90929a8f8c9a8a, 0x646f72616e646f6c, 0x9386989a919a8d9e, 0x7465646279746572)},
		{most, 1 << 63, sipOf(0x8c90929a8f8c9a8a, 0xe46f72616e646f6d, 0x9386989a919a8d9e, 0xf465646279746573)},
		{most, most, sipOf(0x8c90929a8f8c9a8a, 0x9b908d9e919b9092, 0x9386989a919a8d9e, 0x8b9a9b9d868b9a8c)},
		{knownK, knownL, sipOf(0x7469686173716475, 0x6b617f6d656e6665, 0x6b7f62616d677361, 0x7b6b696e727e6c7b)},
		{8317987319222330741, 7237128888997146477, sipOf(0, 0, 0x1f160a001e161714, 0x100a160317100a1e)},
	} {
		if got := impl.SipStart(c.k, c.l); got != c.want {
			t.Errorf("SipStart(%#x, %#x) = %#x, want %#x", c.k, c.l, got, c.want)
		}
	}
}

// Each half of the key is in two words, from which it can be taken back.
func TestSipStartOfKeys(t *testing.T) {
	plain := impl.SipStart(0, 0)
	check := func(k, l uint64) {
		t.Helper()
		s := impl.SipStart(k, l)
		if s != startOf(k, l) || s != impl.SipStart(k, l) {
			t.Errorf("SipStart(%#x, %#x) = %#x, want %#x", k, l, s, startOf(k, l))
		}
		if s.A^plain.A != k || s.C^plain.C != k || s.B^plain.B != l || s.D^plain.D != l {
			t.Errorf("SipStart(%#x, %#x) = %#x, from which the key cannot be taken back", k, l, s)
		}
		if other := impl.SipStart(l, k); (s == other) != (k == l) {
			t.Errorf("SipStart(%#x, %#x) = %#x, and with the halves exchanged %#x", k, l, s, other)
		}
	}
	for _, k := range sipKeys {
		for _, l := range sipKeys {
			check(k, l)
		}
	}
	for bit := range 64 {
		check(1<<bit, 0)
		check(0, 1<<bit)
		check(knownK^1<<bit, knownL)
	}
	for seed := range 20000 {
		check(someWord(2*seed), someWord(2*seed+1))
	}
}

func TestSipRound(t *testing.T) {
	for _, c := range []struct{ s, want impl.Sip }{
		{sipOf(0, 0, 0, 0), sipOf(0, 0, 0, 0)},
		{sipOf(1, 0, 0, 0), sipOf(0x100000000, 0x20001, 0x100000000, 0x100000000)},
		{sipOf(1<<31, 0, 0, 0), sipOf(0x8000000000000000, 0x1000080000000, 0x8000000000000000, 0x8000000000000000)},
		{sipOf(1<<32, 0, 0, 0), sipOf(1, 0x2000100000000, 1, 1)},
		{sipOf(1<<63, 0, 0, 0), sipOf(0x80000000, 0x8000000000010000, 0x80000000, 0x80000000)},
		{sipOf(most, 0, 0, 0), sipOf(most, 0, most, most)},
		{sipOf(0, 1, 0, 0), sipOf(0x100000000, 0x40022001, 0x200100000000, 0x100000000)},
		{sipOf(0, 1<<31, 0, 0), sipOf(0x8000000000000000, 0x2001100080000000, 0x8000000000001000, 0x8000000000000000)},
		{sipOf(0, 1<<32, 0, 0), sipOf(1, 0x4002200100000000, 0x2001, 1)},
		{sipOf(0, 1<<63, 0, 0), sipOf(0x80000000, 0x8000000020011000, 0x100080000000, 0x80000000)},
		{sipOf(0, most, 0, 0), sipOf(most, 0, 0, most)},
		{sipOf(0, 0, 1, 0), sipOf(1, 1, 0x100000000, 0x200001)},
		{sipOf(0, 0, 1<<31, 0), sipOf(0x80000000, 0x80000000, 0x8000000000000000, 0x10000080000000)},
		{sipOf(0, 0, 1<<32, 0), sipOf(0x100000000, 0x100000000, 1, 0x20000100000000)},
		{sipOf(0, 0, 1<<63, 0), sipOf(0x8000000000000000, 0x8000000000000000, 0x80000000, 0x8000000000100000)},
		{sipOf(0, 0, most, 0), sipOf(most, most, most, 0)},
		{sipOf(0, 0, 0, 1), sipOf(0x10001, 1, 0x100000000, 0x2000210001)},
		{sipOf(0, 0, 0, 1<<31), sipOf(0x800080000000, 0x80000000, 0x8000000000000000, 0x10800080000010)},
		{sipOf(0, 0, 0, 1<<32), sipOf(0x1000100000000, 0x100000000, 1, 0x21000100000020)},
		{sipOf(0, 0, 0, 1<<63), sipOf(0x8000000000008000, 0x8000000000000000, 0x80000000, 0x8000001000108000)},
		{sipOf(0, 0, 0, most), sipOf(0, most, most, 0)},
		{sipOf(most, most, most, most), sipOf(0xffffffff00000000, 0xfffffffffffdffff, most, 0xffffffff00200000)},
		{sipOf(1<<63, 1<<63, 1<<63, 1<<63), sipOf(0x8000, 0x20001000, 0x100000000000, 0x1000008000)},
		{sipOf(1, most, 1, most), sipOf(most, 0, most, 0)},
		{sipOf(most, 1, most, 1), sipOf(0x10000, 0x40002000, 0x200000000000, 0x2000010000)},
		{sipOf(1<<32, 1<<31, most, 1<<63), sipOf(0xffffffffffff8000, 0xa00310017fffffff, 0x7fffffff80001001, 0x1000107fff)},
		{sipOf(1, 2, 3, 4), sipOf(0x300040007, 0x8006400a, 0x400a00000000, 0x8300e40007)},
		{sipOf(4, 3, 2, 1), sipOf(0x700010003, 0xc00e600a, 0x600a00000000, 0x2700610003)},
		{sipOf(0x706050403020100, 0xf0e0d0c0b0a0908, 0x1716151413121110, 0x1f1e1d1c1b1a1918), sipOf(0x393433324d484746, 0x2b0b5bfb6a8a997a, 0x7d5936110de9c5a1, 0x1c72d5b4eb8d2243)},
	} {
		if got := impl.SipRound(c.s); got != c.want {
			t.Errorf("SipRound(%#x) = %#x, want %#x", c.s, got, c.want)
		}
		checkRound(t, c.s)
	}
}

// A round can be undone: no two Sips have the same one.
func TestSipRoundIsInvertible(t *testing.T) {
	before := map[impl.Sip]impl.Sip{}
	for _, s := range drawnSips() {
		checkRound(t, s)
		got := impl.SipRound(s)
		if other, ok := before[got]; ok && other != s {
			t.Errorf("SipRound(%#x) and SipRound(%#x) are %#x", s, other, got)
		}
		before[got] = s
		// Each Sip is the round of another one, too.
		if forth := impl.SipRound(roundBack(s)); forth != s {
			t.Errorf("SipRound(%#x) = %#x, want %#x", roundBack(s), forth, s)
		}
	}
	if len(before) < 20000 {
		t.Errorf("there are only %d different rounds", len(before))
	}
}

// Many rounds, one after the other, lead to one Sip, and back from there.
func TestSipRoundManyTimes(t *testing.T) {
	start := impl.SipStart(knownK, knownL)
	s := start
	for range 10000 {
		s = impl.SipRound(s)
	}
	for range 10000 {
		s = roundBack(s)
	}
	if s != start {
		t.Errorf("10000 rounds back from 10000 rounds there is %#x, want %#x", s, start)
	}
}

func TestSipWord(t *testing.T) {
	for _, c := range []struct {
		s    impl.Sip
		m    uint64
		want impl.Sip
	}{
		{sipOf(0, 0, 0, 0), 0, sipOf(0, 0, 0, 0)},
		{sipOf(0, 0, 0, 0), 1, sipOf(0x21000200200000, 0x2340262003, 0x22200300000021, 0x21040200000401)},
		{sipOf(0, 0, 0, 0), 1 << 63, sipOf(0x10800000100000, 0x80000011a0111000, 0x8011100080000010, 0x8010820000000200)},
		{sipOf(0, 0, 0, 0), most, sipOf(1, most, most, 1)},
		{sipOf(most, most, most, most), 0, sipOf(0xfffeffdf001efffe, 0x280044021ffff, 0x4021ffff00000000, 0x41efc3f001effe1)},
		{sipOf(most, most, most, most), 1, sipOf(0x1fff9f0040fffc, 0xfffd7fdd00422000, 0x40422000ffffffdf, 0xf3fff780ffa0fbe2)},
		{sipOf(most, most, most, most), 1 << 63, sipOf(0xf7fde002ffffe, 0x7ffd7fece0320fff, 0xc0320fff7fffffef, 0x7bcf79de003ffde1)},
		{sipOf(most, most, most, most), most, sipOf(0xfffcfffffffeffff, 0xfffe8003bffc0000, 0x4001ffff00000000, 0x23002000210020)},
		{sipOf(1, 2, 3, 4), 0, sipOf(0x808d807a00e3000a, 0x2006c08648cd0018, 0x48ef001800005090, 0x8dad9c1a00031062)},
		{sipOf(1, 2, 3, 4), 1, sipOf(0x80ae81be010d000a, 0x2006c0a50929201b, 0x490f201b000050b1, 0xb5cea01e000d1463)},
		{sipOf(1, 2, 3, 4), 1 << 63, sipOf(0x809e007a00f3000a, 0xa006c0b7e9221018, 0xc9001018800050a0, 0xdbe1e1a00031262)},
		{sipOf(1, 2, 3, 4), most, sipOf(0x7f727f5dffdafffb, 0x2006c093882a6003, 0x482e600300005087, 0x948d84020005106c)},
		{sipOf(4, 3, 2, 1), 0x0706050403020100, sipOf(0x4fbec9e79bf6959c, 0xa98da8b45d08e069, 0x12d773388f6d3ae8, 0xf2293172a984e1b0)},
		{sipOf(4, 3, 2, 1), 0x0001020304050607, sipOf(0x46b9d97483759499, 0x828489175c390e2, 0x6df3d464e90b1d0e, 0xad4876c6d6a087d3)},
		// The two words of the 15 bytes 0, 1, .., 14.
		{sipOf(0x7469686173716475, 0x6b617f6d656e6665, 0x6b7f62616d677361, 0x7b6b696e727e6c7b), 0x0706050403020100, sipOf(0x4a017198de0a59e0, 0x0d52f6f62a4f59a4, 0x634cb3577b01fd3d, 0xa5224d6f55c7d9c8)},
		{sipOf(0x4a017198de0a59e0, 0x0d52f6f62a4f59a4, 0x634cb3577b01fd3d, 0xa5224d6f55c7d9c8), 0x0f0e0d0c0b0a0908, sipOf(0x3c85b3ab6f55be51, 0x414fc3fb98efe374, 0xccf13ea527b9f4bd, 0x5293f5da84008f82)},
	} {
		if got := impl.SipWord(c.s, c.m); got != c.want {
			t.Errorf("SipWord(%#x, %#x) = %#x, want %#x", c.s, c.m, got, c.want)
		}
		checkSipWord(t, c.s, c.m)
	}
}

func TestSipWordIsInvertible(t *testing.T) {
	drawn := drawnSips()
	for _, m := range sipKeys {
		before := map[impl.Sip]impl.Sip{}
		for _, s := range drawn {
			checkSipWord(t, s, m)
			got := impl.SipWord(s, m)
			if other, ok := before[got]; ok && other != s {
				t.Errorf("SipWord of %#x and of %#x with %#x are %#x", s, other, m, got)
			}
			before[got] = s
		}
	}
	for i, s := range drawn {
		checkSipWord(t, s, someWord(i))
		checkSipWord(t, s, 1<<(i%64))
	}
}

// Different words, among them each one with its bytes in the other order, lead
// to different Sips.
func TestSipWordOfDifferentWords(t *testing.T) {
	for _, s := range []impl.Sip{{}, impl.SipStart(0, 0), impl.SipStart(knownK, knownL), sipOf(most, most, most, most), someSip(3)} {
		words := []uint64{0, most, knownK, knownL}
		for bit := range 64 {
			words = append(words, 1<<bit, ^uint64(1<<bit), 1<<bit-1)
		}
		for seed := range 5000 {
			words = append(words, someWord(seed), bits.ReverseBytes64(someWord(seed)))
		}
		found := map[impl.Sip]uint64{}
		for _, m := range words {
			got := impl.SipWord(s, m)
			if other, ok := found[got]; ok && other != m {
				t.Errorf("SipWord(%#x, %#x) and SipWord(%#x, %#x) are %#x", s, m, s, other, got)
			}
			found[got] = m
			checkSipWord(t, s, m)
		}
	}
}

func TestSipEnd(t *testing.T) {
	for _, c := range []struct {
		s    impl.Sip
		want uint64
	}{
		{sipOf(0, 0, 0, 0), 0x3c4ceb5cc070daa0},
		{sipOf(1, 0, 0, 0), 0x414869bacf320a97},
		{sipOf(1<<31, 0, 0, 0), 0xbde799d729c4c479},
		{sipOf(1<<32, 0, 0, 0), 0x75536a0ac4970c2a},
		{sipOf(1<<63, 0, 0, 0), 0xbecf20ae0964b36f},
		{sipOf(most, 0, 0, 0), 0xf7b59d916d60aa60},
		{sipOf(0, 1, 0, 0), 0x410738cb1866c0cd},
		{sipOf(0, 1<<31, 0, 0), 0x3b60204437f1c497},
		{sipOf(0, 1<<32, 0, 0), 0x0158d28dd8ff246b},
		{sipOf(0, 1<<63, 0, 0), 0xd84b464886384d07},
		{sipOf(0, most, 0, 0), 0x0acf3ecd0d3c5a33},
		{sipOf(0, 0, 1, 0), 0x546f37a50551c45b},
		{sipOf(0, 0, 1<<31, 0), 0x082bd47851ef4992},
		{sipOf(0, 0, 1<<32, 0), 0x33f83d8da4b767a6},
		{sipOf(0, 0, 1<<63, 0), 0x137f34bcb5bc16f7},
		{sipOf(0, 0, most, 0), 0xce62a6f8884d10d3},
		{sipOf(0, 0, 0, 1), 0x0c9926695ca55bc1},
		{sipOf(0, 0, 0, 1<<31), 0x170bc89b87bdddf5},
		{sipOf(0, 0, 0, 1<<32), 0x0cbd24938dfbaf82},
		{sipOf(0, 0, 0, 1<<63), 0xa34acc84dc7423f2},
		{sipOf(0, 0, 0, most), 0x14554f2f2240cf49},
		{sipOf(0, 0, 255, 0), 0},
		{sipOf(most, most, most, most), 0x6783c3d6e197af41},
		{sipOf(1<<63, 1<<63, 1<<63, 1<<63), 0x792c7831946a160a},
		{sipOf(1, most, 1, most), 0x701db97b76e75bf5},
		{sipOf(most, 1, most, 1), 0x5eb995f84df094be},
		{sipOf(1<<32, 1<<31, most, 1<<63), 0xcf5cccd157f39e30},
		{sipOf(1, 2, 3, 4), 0x24eb282034d1f779},
		{sipOf(4, 3, 2, 1), 0x4b90e2e195668ce7},
		{sipOf(0x706050403020100, 0xf0e0d0c0b0a0908, 0x1716151413121110, 0x1f1e1d1c1b1a1918), 0x439ea507b488f5c9},
		{sipOf(0x3c85b3ab6f55be51, 0x414fc3fb98efe374, 0xccf13ea527b9f4bd, 0x5293f5da84008f82), 0xa129ca6149be45e5},
	} {
		if got := impl.SipEnd(c.s); got != c.want {
			t.Errorf("SipEnd(%#x) = %#x, want %#x", c.s, got, c.want)
		}
	}
	for _, s := range drawnSips() {
		checkSipEnd(t, s)
	}
}

func TestSipHashOfKnownVectors(t *testing.T) {
	text := ""
	for n, want := range knownHashes {
		if got := impl.SipHash(knownK, knownL, text); got != want {
			t.Errorf("SipHash of the bytes below %d is %#x, want %#x", n, got, want)
		}
		checkHash(t, knownK, knownL, text)
		text += string([]byte{byte(n)})
	}
}

func TestSipHashOfKeys(t *testing.T) {
	for _, c := range []struct {
		k, l        uint64
		empty, some uint64
	}{
		{0, 0, 0x1e924b9d737700d7, 0xf7f1475a29d49a0a},
		{0, 1, 0xc4235c5247d6521c, 0x32b86b98a317b220},
		{0, 1 << 63, 0x87f7600ac7c98ce8, 0xf58e21f312e8057d},
		{0, most, 0x4d0617e48cf8737b, 0x34e9bb6b171d3cae},
		{1, 0, 0x54e761ac4b1ca3de, 0x6bbdcdd19f40c4f6},
		{1, 1, 0x616d8985de49e87c, 0x856d79b68278da56},
		{1, 1 << 63, 0xd78c25551edb5950, 0x8c7e9b477cbb8027},
		{1, most, 0x21272643cb08c195, 0x2c78f67bd55d0923},
		{1 << 63, 0, 0x620f794693c9a5b9, 0x20b6f6242ae21cf7},
		{1 << 63, 1, 0xb80261731e097a96, 0x96c793b129e62b02},
		{1 << 63, 1 << 63, 0x736249c64a72a106, 0x5f3c376d5f5cf503},
		{1 << 63, most, 0x0eadb796e7ba03db, 0x25ed99aba592a174},
		{most, 0, 0xa4e3fdab06a40925, 0x0e01969c3b6b84aa},
		{most, 1, 0x3d44093d886c2c61, 0x4fc004794fc31c7a},
		{most, 1 << 63, 0x81802727c6ace247, 0xfc108bc6aebbea90},
		{most, most, 0x35dd279ee86ce565, 0x49d20debed0da97a},
	} {
		if got := impl.SipHash(c.k, c.l, ""); got != c.empty {
			t.Errorf("SipHash(%#x, %#x, \"\") = %#x, want %#x", c.k, c.l, got, c.empty)
		}
		if got := impl.SipHash(c.k, c.l, "some text"); got != c.some {
			t.Errorf("SipHash(%#x, %#x, \"some text\") = %#x, want %#x", c.k, c.l, got, c.some)
		}
	}
	if got := impl.SipHash(0, 0, "Hello world"); got != 0xc9e8a3021f3822d9 {
		t.Errorf("SipHash(0, 0, \"Hello world\") = %#x", got)
	}
}

// A key with its halves exchanged, or with their bytes in the other order, is
// another key.
func TestSipHashOfConfusedKeys(t *testing.T) {
	for seed := range 3000 {
		k, l := someWord(2*seed), someWord(2*seed+1)
		if seed < 16 {
			k, l = sipKeys[seed/4], sipKeys[seed%4]
		}
		text := someBytes(seed%20, seed)
		found := map[uint64][2]uint64{}
		for _, key := range [][2]uint64{
			{k, l}, {l, k}, {bits.ReverseBytes64(k), bits.ReverseBytes64(l)}, {bits.ReverseBytes64(l), bits.ReverseBytes64(k)}, {k, k}, {l, l}, {^k, l}, {k, ^l}, {k + 1, l}, {k, l + 1},
		} {
			checkHash(t, key[0], key[1], text)
			hash := impl.SipHash(key[0], key[1], text)
			if other, ok := found[hash]; ok && other != key {
				t.Errorf("SipHash of %q is %#x with the key %#x and with the key %#x", text, hash, key, other)
			}
			found[hash] = key
		}
	}
}

func TestSipHashOfSizes(t *testing.T) {
	for _, c := range []struct {
		size int
		want [4]uint64
	}{
		{0, [4]uint64{0x726fdb47dd0e0e31, 0x726fdb47dd0e0e31, 0x726fdb47dd0e0e31, 0x726fdb47dd0e0e31}},
		{1, [4]uint64{0x74f839c593dc67fd, 0x3d80d6f4e646ec55, 0x11f49ee895ee6ece, 0xcad12f7b27ddb802}},
		{7, [4]uint64{0xaab82dae3354313a, 0x3d2f4f8e6f86a550, 0xc345cfc13f502b2c, 0x00ac323c9a55b1dc}},
		{8, [4]uint64{0x39d3851ca07681a7, 0xcfabd14aee1e68fd, 0x558519f6365c70d7, 0x2a68ff30a3d9da34}},
		{9, [4]uint64{0x4876b84f02298863, 0x811b85a4bc6ab41a, 0x1d27e249a663733f, 0x30f4333b0ba8a712}},
		{15, [4]uint64{0x33ea71257ea30cbc, 0xd0eb954b3770e70e, 0x2615a9c5c8b1b406, 0xc222e7ece2309af1}},
		{16, [4]uint64{0x98a0d3c0ef557701, 0x52e7b7ca5733b590, 0x39c5b78592e45ee5, 0xa06ef3ea6d6b622e}},
		{17, [4]uint64{0xad46f6034bd4b856, 0xdc9fe090944a15cb, 0xe663177b30184812, 0x28a447da70a115da}},
		{255, [4]uint64{0x91c97abab4cdbf56, 0x534c356e0c918761, 0x99e2fabf320a83c9, 0x0a13f5bfc90d46c4}},
		{256, [4]uint64{0x7408248d2694d61c, 0xe3c99d78dc75e934, 0x02ee9a0d32567b8d, 0xa7eafdce7eaf859f}},
		{257, [4]uint64{0x95b2db4c59428646, 0x1a13c9e1430443c3, 0xf1fb5c02eab59943, 0x7954351b0a747ab1}},
		{511, [4]uint64{0xd014d050ebc85ca0, 0x46b3e9073a87f37a, 0x6b146b8b6fc4f414, 0xa316bff38e4b47af}},
		{512, [4]uint64{0x8c27ab541c5b67bc, 0xe47f26c368b121e7, 0xa2bd7435606fe678, 0x0ccab73b60c75cfa}},
		{513, [4]uint64{0x8fa084330e8e5ed8, 0x84c0c3ff65deef2f, 0xeed086e36d592310, 0x35a2ea4ead3124c1}},
	} {
		for i, fill := range sipFills {
			if got := impl.SipHash(knownK, knownL, strings.Repeat(string([]byte{fill}), c.size)); got != c.want[i] {
				t.Errorf("SipHash of %d bytes %d is %#x, want %#x", c.size, fill, got, c.want[i])
			}
		}
	}
	for size := range 1100 {
		for _, fill := range sipFills {
			checkHash(t, knownK, knownL, strings.Repeat(string([]byte{fill}), size))
		}
		checkHash(t, someWord(size), someWord(size+1), someBytes(size, size))
	}
}

// The text is applied word by word, and what remains of it with the length of
// all of it.
func TestSipHashIsItsWords(t *testing.T) {
	for _, size := range sipSizes {
		for seed, k := range sipKeys {
			text := someBytes(size, seed)
			s := impl.SipStart(k, knownL)
			for at := 0; at+8 <= size; at += 8 {
				s = impl.SipWord(s, binary.LittleEndian.Uint64([]byte(text[at:])))
			}
			last := append([]byte(text[size/8*8:]), make([]byte, 7-size%8)...)
			s = impl.SipWord(s, binary.LittleEndian.Uint64(append(last, byte(size))))
			if got := impl.SipHash(k, knownL, text); got != impl.SipEnd(s) {
				t.Errorf("SipHash of %d bytes is %#x, but its words lead to %#x", size, got, impl.SipEnd(s))
			}
		}
	}
}

// All values of the bytes in each place of the last word.
func TestSipHashOfTheLastWord(t *testing.T) {
	for _, words := range []int{0, 1, 2, 31, 32, 63, 64} {
		for rest := 1; rest < 8; rest++ {
			size := 8*words + rest
			for at := size - rest; at < size; at++ {
				var texts []string
				for c := range 256 {
					for _, fill := range sipFills {
						texts = append(texts, replaced(strings.Repeat(string([]byte{fill}), size), at, string([]byte{byte(c)})))
					}
				}
				checkApart(t, knownK, knownL, texts)
			}
		}
	}
}

// Texts whose last words have each of the four bytes in each place.
func TestSipHashOfAllLastWords(t *testing.T) {
	for _, before := range []string{"", "8 bytes!", strings.Repeat("\x80", 256)} {
		for rest := range 8 {
			var texts []string
			for n := range 1 << (2 * rest) {
				text := []byte(before)
				for i := range rest {
					text = append(text, sipFills[n>>(2*i)&3])
				}
				texts = append(texts, string(text))
			}
			checkApart(t, 1, 1<<63, texts)
		}
	}
}

// Texts that differ in their length alone have different hashes, also where the
// byte of the length is the same.
func TestSipHashOfLengths(t *testing.T) {
	for _, c := range []byte{0, 1, 127, 128, 255} {
		var texts []string
		for size := range 1100 {
			texts = append(texts, strings.Repeat(string([]byte{c}), size))
		}
		checkApart(t, 0, 0, texts)
		checkApart(t, knownK, knownL, texts)
	}
	if impl.SipHash(0, 0, "") == impl.SipHash(0, 0, "\x00") {
		t.Error("SipHash of no byte and of a zero byte are the same")
	}
	for seed := range 300 {
		text := someBytes(seed%30, seed)
		var texts []string
		for zeros := range 20 {
			texts = append(texts, text+strings.Repeat("\x00", zeros), strings.Repeat("\x00", zeros)+text)
		}
		checkApart(t, someWord(seed), someWord(seed+1), texts)
	}
}

// Texts that would be the same if the length were not counted, or counted
// elsewhere, and texts of the same words in another order.
func TestSipHashOfConfusedTexts(t *testing.T) {
	texts := []string{
		"", "\x00", "\x01", "\x00\x00\x00\x00\x00\x00\x00", "\x00\x00\x00\x00\x00\x00\x00\x00", "\x00\x00\x00\x00\x00\x00\x00\x01", "\x00\x00\x00\x00\x00\x00\x00\x07", "\x00\x00\x00\x00\x00\x00\x00\x08",
		"abcdefg", "abcdefg\x07", "abcdefg\x08", "abcdefgh", "hgfedcba", "abcdefg\x00", "\x07abcdefg", "\x00abcdefg", "gfedcba", "gfedcba\x07",
		"abcdefghABCDEFGH", "ABCDEFGHabcdefgh", "hgfedcbaHGFEDCBA", "HGFEDCBAhgfedcba", "abcdefghabcdefgh", "abcdefgABCDEFG", "abcdefgABCDEFG\x0e",
		"a", "b", "ab", "ba", "abc", "cba", "acb", "a\x00b", "ab\x00", "\x00ab", "\x80", "\xff", "\x7f", "\u0080", "\u00ff", "\u20ac", "\ufffd", "\xe2", "\xe2\x82", "\xe2\x82\xac",
	}
	for _, k := range sipKeys {
		for _, l := range sipKeys {
			checkApart(t, k, l, texts)
		}
	}
	// Any bytes exchanged with others of the text.
	text := "0123456789abcdefghijklmno"
	texts = []string{text}
	for i := range len(text) {
		for j := range i {
			b := []byte(text)
			b[i], b[j] = b[j], b[i]
			texts = append(texts, string(b))
		}
	}
	checkApart(t, knownK, knownL, texts)
}

// Every bit of a text and of a key counts.
func TestSipHashOfEachBit(t *testing.T) {
	for _, size := range []int{1, 7, 8, 9, 15, 16, 17, 257} {
		text := someBytes(size, size)
		texts := []string{text}
		for at := range size {
			for bit := range 8 {
				texts = append(texts, replaced(text, at, string([]byte{text[at] ^ 1<<bit})))
			}
		}
		checkApart(t, knownK, knownL, texts)
	}
	plain := impl.SipHash(knownK, knownL, "some text")
	for bit := range 64 {
		checkHash(t, knownK^1<<bit, knownL, "some text")
		checkHash(t, knownK, knownL^1<<bit, "some text")
		if impl.SipHash(knownK^1<<bit, knownL, "some text") == plain || impl.SipHash(knownK, knownL^1<<bit, "some text") == plain {
			t.Errorf("SipHash does not depend on the bit %d of the key", bit)
		}
	}
}

// Every function returns, and returns the same again, whatever it is given.
func TestSipIsTotal(t *testing.T) {
	defer func() {
		if r := recover(); r != nil {
			t.Fatalf("panic: %v", r)
		}
	}()
	for i, x := range farInts {
		for _, y := range farInts {
			k, l := uint64(x), uint64(y)
			if impl.SipStart(k, l) != startOf(k, l) {
				t.Errorf("SipStart(%#x, %#x) = %#x", k, l, impl.SipStart(k, l))
			}
			for _, s := range []impl.Sip{sipOf(k, l, k, l), sipOf(k, k, l, l), sipOf(k, l, l, k), impl.SipStart(k, l)} {
				checkRound(t, s)
				checkSipEnd(t, s)
				checkSipWord(t, s, k)
				checkSipWord(t, s, l)
			}
			checkHash(t, k, l, someBytes(i, y))
		}
	}
	for _, size := range []int{65535, 65536, 65537, 1<<20 - 1, 1 << 20, 1<<20 + 1} {
		checkHash(t, knownK, knownL, someBytes(size, size))
		checkHash(t, 0, most, strings.Repeat("\x00", size))
	}
}

// Hashing a part of a string reads and changes nothing outside of it.
func TestSipArgumentsUnchanged(t *testing.T) {
	whole := someBytes(70, 1)
	kept := strings.Clone(whole)
	for from := range len(whole) {
		for to := from; to <= len(whole); to++ {
			got := impl.SipHash(knownK, knownL, whole[from:to])
			if want := impl.SipHash(knownK, knownL, strings.Clone(kept[from:to])); got != want || whole != kept {
				t.Errorf("SipHash of %d to %d = %#x, want %#x", from, to, got, want)
			}
		}
	}
	list := []impl.Sip{someSip(1), someSip(2), someSip(3)}
	before := slices.Clone(list)
	for i := range list {
		at := &list[i]
		round, word, end := impl.SipRound(*at), impl.SipWord(*at, knownK), impl.SipEnd(*at)
		if round != impl.SipRound(before[i]) || word != impl.SipWord(before[i], knownK) || end != impl.SipEnd(before[i]) {
			t.Errorf("the results for %#x differ from those for %#x", list[i], before[i])
		}
	}
	if !slices.Equal(list, before) {
		t.Errorf("%#x were changed to %#x", before, list)
	}
}

// No call depends on other calls, before it or at the same time.
func TestSipKeepsNothing(t *testing.T) {
	results := make([][]uint64, 8)
	var group sync.WaitGroup
	for worker := range results {
		group.Go(func() {
			for i := range 400 {
				seed := (i + 50*worker) % 400
				impl.SipHash(someWord(worker), someWord(i), someBytes(worker+i%17, i))
				results[worker] = append(results[worker], impl.SipHash(someWord(seed), someWord(seed+1), someBytes(seed, seed)))
			}
		})
	}
	group.Wait()
	for worker, list := range results {
		for i, got := range list {
			seed := (i + 50*worker) % 400
			if want := hashOf(someWord(seed), someWord(seed+1), someBytes(seed, seed)); got != want {
				t.Errorf("SipHash with the seed %d is %#x, want %#x", seed, got, want)
			}
		}
	}
}
