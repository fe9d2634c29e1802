package tests

import (
	"fmt"
	"math/big"
	"slices"
	"strings"
	"testing"

	"loop.example/g00504/impl"
)

var verdictWords = []string{"", "drop", "reset", "challenge", "ack", "fine"}

// sizedSegments occupy so many numbers, with these flags and so many bytes.
var sizedSegments = []struct{ flags, bytes, size int }{
	{0, 0, 0}, {impl.FlAck, 0, 0}, {impl.FlRst | impl.FlPsh | impl.FlAck | 32, 0, 0}, {impl.FlRst, 0, 0},
	{0, 1, 1}, {impl.FlSyn, 0, 1}, {impl.FlFin, 0, 1}, {impl.FlAck | impl.FlPsh, 1, 1}, {impl.FlFin | impl.FlAck, 0, 1}, {impl.FlRst | impl.FlSyn, 0, 1},
	{impl.FlSyn | impl.FlFin, 0, 2}, {63, 0, 2}, {impl.FlAck, 2, 2}, {impl.FlSyn, 1, 2}, {impl.FlFin, 1, 2},
	{impl.FlSyn | impl.FlFin, 1, 3}, {impl.FlAck, 3, 3}, {impl.FlFin, 4, 5}, {impl.FlAck, 31, 31}, {impl.FlFin, 31, 32}, {impl.FlAck, 32, 32},
	{impl.FlAck, 33, 33}, {impl.FlSyn | impl.FlFin, 32, 34}, {impl.FlAck, 100, 100}, {impl.FlAck, 1420, 1420}, {63, 1420, 1422},
}

// acksAround are acknowledgments by how far they are from the first number that is not acknowledged.
var acksAround = []struct {
	most, sent int
	finSent    bool
	ahead      int
	want       bool
}{
	{0, 0, false, 0, true}, {0, 0, false, 1, false}, {0, 0, false, -1, false}, {0, 0, true, 0, true}, {0, 0, true, 1, true}, {0, 0, true, 2, false}, {0, 0, true, -1, false},
	{1, 0, false, -1, true}, {1, 0, false, -2, false}, {1, 0, false, 0, true}, {1, 0, false, 1, false}, {2, 0, false, -2, true}, {2, 0, false, -3, false},
	{0, 4, false, 0, true}, {0, 4, false, 1, true}, {0, 4, false, 3, true}, {0, 4, false, 4, true}, {0, 4, false, 5, false}, {0, 4, false, -1, false},
	{0, 4, true, 4, true}, {0, 4, true, 5, true}, {0, 4, true, 6, false}, {0, 4, true, -1, false}, {10, 4, true, -10, true}, {10, 4, true, -11, false}, {10, 4, false, -10, true}, {10, 4, false, -11, false},
	{3, 48, false, 48, true}, {3, 48, false, 49, false}, {3, 48, true, 49, true}, {3, 48, true, 50, false}, {48, 3, false, 4, false}, {48, 3, false, 48, false}, {48, 3, false, -48, true}, {48, 3, false, -49, false},
	{1073725440, 0, false, -1073725440, true}, {1073725440, 0, false, -1073725441, false}, {1073725440, 0, false, 0, true}, {1073725440, 0, false, 1, false}, {1073725440, 5, true, 1073725440, false},
	{1073725440, 0, false, -half, false}, {1073725440, 0, false, half - 1, false}, {0, 0, false, -half, false}, {0, 0, false, half - 1, false}, {0, 48, true, -half, false}, {0, 48, true, half - 1, false},
}

// acksOfRefused are acknowledgments for connections with a Most or a Sent that is refused.
var acksOfRefused = []struct {
	most, sent int
	finSent    bool
	ahead      int
	want       bool
}{
	{-1, 0, false, 0, true}, {-1, 0, false, 1, false}, {-1, 0, false, -1, false}, {-1, 4, true, 5, true}, {-1, 4, true, 6, false}, {-1, 4, true, -1, false},
	{-5, 4, false, 3, true}, {-5, 4, false, 4, true}, {-5, 4, false, 0, true}, {-5, 9, false, 5, true}, {-5, 9, false, -5, false},
	{-half, 4, false, 4, true}, {-half, 4, false, -1, false}, {-all, 4, false, 0, true}, {-all, 4, false, -1, false},
	{leastInt, 4, false, 4, true}, {leastInt, 4, false, 0, true}, {leastInt, 4, false, 5, false}, {leastInt, 4, false, -1, false}, {leastInt, 4, false, -half, false}, {leastInt + 1, 4, false, 0, true}, {leastInt + 1, 4, false, -1, false},
	{half - 1, 0, false, -half + 1, true}, {half - 1, 0, false, -half, false}, {half, 0, false, -half + 1, true}, {half, 0, false, -half, true}, {half + 1, 0, false, -half, true},
	{half - 1, 0, false, 1, false}, {half, 0, false, 1, false}, {half, 0, false, half - 1, false}, {half + 1, 4, true, 6, false}, {half + 1, 0, false, 0, true},
	{all, 0, false, -half, true}, {all, 0, false, -1, true}, {all, 0, false, 1, false}, {all + 1, 0, false, -2, true}, {1 << 62, 0, false, -half, true},
	{mostInt, 0, false, -half, true}, {mostInt, 0, false, 0, true}, {mostInt, 0, false, 1, false}, {mostInt, 0, true, 1, true}, {mostInt, 0, true, 2, false}, {mostInt - 1, 0, false, -half, true},
	{9, -1, false, -1, true}, {9, -1, false, 0, false}, {9, -1, true, 0, true}, {9, -1, true, 1, false}, {9, -5, false, -5, true}, {9, -5, false, -4, false}, {9, -5, false, -9, true}, {9, -5, false, -10, false},
	{9, -5, true, -4, true}, {9, -5, true, -3, false}, {9, -9, false, -9, true}, {9, -10, false, -9, false}, {9, -10, true, -9, true}, {0, -1, false, 0, false}, {0, -1, true, 0, true}, {-1, -1, false, -1, false},
	{9, half - 2, false, half - 2, true}, {9, half - 2, false, half - 1, false}, {9, half - 2, true, half - 1, true}, {9, half - 1, false, half - 1, true}, {9, half - 1, false, -10, false},
	{9, half, false, half - 1, true}, {9, half, false, -half, false}, {9, all, false, 0, true}, {9, all, false, half - 1, true}, {9, all + 4, false, 5, true}, {9, all, false, -9, true}, {9, all, false, -10, false},
	{9, mostInt, false, 0, true}, {9, mostInt, false, half - 1, true}, {9, mostInt, true, 0, true}, {9, mostInt, true, half - 1, true}, {9, mostInt, true, -9, true}, {9, mostInt, true, -10, false}, {0, mostInt - 1, true, 1, true},
	{9, leastInt, false, 0, false}, {9, leastInt, false, -9, false}, {9, leastInt, true, 0, false}, {9, leastInt + 1, false, 0, false}, {mostInt, leastInt, false, -half, false}, {mostInt, leastInt, true, -half, false},
	{mostInt, -half, false, -half, true}, {mostInt, -half, false, -half + 1, false}, {mostInt, -half - 1, false, -half, false}, {mostInt, -half - 1, true, -half, true}, {mostInt, mostInt, true, -half, true}, {leastInt, leastInt, true, 0, false}, {leastInt, mostInt, true, 0, true}, {leastInt, mostInt, true, -1, false},
}

// segmentFor is a valid segment from connPeer, if its numbers are words.
func segmentFor(flags, seq, ack int, body string) impl.Segment {
	return impl.Segment{From: connPeer.Port, To: connPeer.My, Seq: seq, Ack: ack, Flags: flags, Window: 700, Opts: noOptions, Body: body}
}

// receiverWith has n bytes that are not taken, and, if there is room, some more behind
// a hole, or an end before that of the window or at it.
func receiverWith(next, n int, done bool) impl.Receiver {
	data, room := manyBytes[:n], 32-n
	switch {
	case done:
		return closed(next, data)
	case n%4 == 1 && room > 3:
		return open(next, data, piece(1, "y"), piece(room-1, "z"))
	case n%4 == 2 && room > 0:
		return closing(next, data, room)
	case n%4 == 3 && room > 0:
		return closing(next, data, 1)
	}
	return open(next, data)
}

// connsAt are valid connections of all states that expect next. Those that still hear
// something have each window from 0 to MaxIn.
func connsAt(next int) []impl.Conn {
	var list []impl.Conn
	for state := 1; state <= 8; state++ {
		for n := range 33 {
			ends := stateEnds[state][n%len(stateEnds[state])]
			c := connWith(state, ends)
			c.R = receiverWith(next, n, strings.HasSuffix(ends, "r"))
			// Numbers that are easily confused with the own ones.
			c.S.Una = exactMod(next, 1+n%5, 0)
			c.Window, c.Most = n%7, n%7+9
			list = append(list, c)
		}
	}
	return list
}

func ownRoom(r impl.Receiver) int {
	if r.Done || len(r.Data) > 32 {
		return 0
	}
	return 32 - len(r.Data)
}

func lengthOf(g impl.Segment) int { return len(g.Body) + g.Flags&1 + g.Flags>>1&1 }

// placeOf is how far behind the expected number another one is.
func placeOf(c impl.Conn, seq int) int { return exactMod(seq, 0, c.R.Next) }

// accepted tries each number of a segment.
func accepted(c impl.Conn, g impl.Segment) bool {
	place, room := placeOf(c, g.Seq), ownRoom(c.R)
	if lengthOf(g) == 0 {
		return place == 0 || place < room
	}
	return meets(place, lengthOf(g), room)
}

// ackTaken compares without the wraparound of an int.
func ackTaken(c impl.Conn, ack int) bool {
	ahead := big.NewInt(int64(exactDiff(ack, c.S.Una)))
	least := new(big.Int).Neg(big.NewInt(int64(c.Most)))
	if c.Most < 0 {
		least.SetInt64(0)
	}
	most := new(big.Int).Add(big.NewInt(int64(c.S.Sent)), big.NewInt(int64(numberIf(c.S.FinSent, 1))))
	return least.Cmp(ahead) <= 0 && ahead.Cmp(most) <= 0
}

// verdictSentences are the document's, in its order. Those that other ones before it
// exclude are left as they are: the first that applies decides.
var verdictSentences = []struct {
	name    string
	applies func(c impl.Conn, g impl.Segment) bool
	verdict int
}{
	{"the connection is refused", func(c impl.Conn, g impl.Segment) bool { return !validConn(c) }, 1},
	{"the connection is closed", func(c impl.Conn, g impl.Segment) bool { return c.State == 8 }, 1},
	{"the segment is refused", func(c impl.Conn, g impl.Segment) bool { return !validSegment(g) }, 1},
	{"a RST at R.Next", func(c impl.Conn, g impl.Segment) bool { return g.Flags&4 > 0 && placeOf(c, g.Seq) == 0 }, 2},
	{"a RST in the window", func(c impl.Conn, g impl.Segment) bool { return g.Flags&4 > 0 && placeOf(c, g.Seq) < ownRoom(c.R) }, 3},
	{"a RST", func(c impl.Conn, g impl.Segment) bool { return g.Flags&4 > 0 }, 1},
	{"a SYN", func(c impl.Conn, g impl.Segment) bool { return g.Flags&2 > 0 }, 3},
	{"it is not acceptable", func(c impl.Conn, g impl.Segment) bool { return !accepted(c, g) }, 4},
	{"no ACK", func(c impl.Conn, g impl.Segment) bool { return g.Flags&16 == 0 }, 1},
	{"its ack does not fit", func(c impl.Conn, g impl.Segment) bool { return !ackTaken(c, g.Ack) }, 3},
	{"nothing else", func(c impl.Conn, g impl.Segment) bool { return true }, 5},
}

// verdictFrom is what the sentences from a place on say.
func verdictFrom(at int, c impl.Conn, g impl.Segment) int {
	for _, x := range verdictSentences[at:] {
		if x.applies(c, g) {
			return x.verdict
		}
	}
	return 0
}

// verdictOf leaves out the first sentence if c is known to be valid.
func verdictOf(valid bool, c impl.Conn, g impl.Segment) int {
	return verdictFrom(numberIf(valid, 1), c, g)
}

func verdictWordOf(k int) string {
	if k < 1 || k > 5 {
		return ""
	}
	return verdictWords[k]
}

func checkAcceptable(t *testing.T, c impl.Conn, g impl.Segment, want bool) {
	t.Helper()
	held := slices.Clone(c.R.Held)
	for range 2 {
		if got := impl.Acceptable(c, g); got != want {
			t.Errorf("Acceptable(%s, %s) = %v", connShown(c), segmentShown(g), got)
		}
	}
	if !slices.Equal(c.R.Held, held) {
		t.Errorf("Acceptable changed the pieces %v to %v", held, c.R.Held)
	}
}

func checkAckFits(t *testing.T, c impl.Conn, ack int, want bool) {
	t.Helper()
	held := slices.Clone(c.R.Held)
	for range 2 {
		if got := impl.AckFits(c, ack); got != want {
			t.Errorf("AckFits(%s, %d) = %v", connShown(c), ack, got)
		}
	}
	if !slices.Equal(c.R.Held, held) {
		t.Errorf("AckFits changed the pieces %v to %v", held, c.R.Held)
	}
}

func checkVerdict(t *testing.T, c impl.Conn, g impl.Segment, want int) {
	t.Helper()
	held := slices.Clone(c.R.Held)
	for range 2 {
		if got := impl.Verdict(c, g); got != want {
			t.Errorf("Verdict(%s, %s) = %d, want %d", connShown(c), segmentShown(g), got, want)
		}
	}
	if !slices.Equal(c.R.Held, held) {
		t.Errorf("Verdict changed the pieces %v to %v", held, c.R.Held)
	}
}

func checkVerdictWord(t *testing.T, k int, want string) {
	t.Helper()
	for range 2 {
		if got := impl.VerdictWord(k); got != want {
			t.Errorf("VerdictWord(%d) = %q, want %q", k, got, want)
		}
	}
}

// checkVerdictCalls checks what all functions answer of one segment.
func checkVerdictCalls(t *testing.T, c impl.Conn, g impl.Segment) {
	t.Helper()
	checkAcceptable(t, c, g, accepted(c, g))
	checkAckFits(t, c, g.Ack, ackTaken(c, g.Ack))
	checkVerdict(t, c, g, verdictOf(false, c, g))
}

func TestVerdictConstants(t *testing.T) {
	list := []int{impl.VdDrop, impl.VdReset, impl.VdChallenge, impl.VdAck, impl.VdFine}
	if !slices.Equal(list, []int{1, 2, 3, 4, 5}) {
		t.Error("the verdicts are", list)
	}
}

func TestVerdictWord(t *testing.T) {
	for k, want := range map[int]string{
		1: "drop", 2: "reset", 3: "challenge", 4: "ack", 5: "fine",
		0: "", 6: "", 7: "", -1: "", -2: "", -5: "", 8: "", 16: "", 256: "", 257: "", all: "", all + 1: "", all + 5: "", 1<<62 + 1: "", mostInt: "", mostInt - 1: "", leastInt: "", leastInt + 1: "", leastInt + 5: "",
	} {
		checkVerdictWord(t, k, want)
	}
	for k := -300; k < 300; k++ {
		checkVerdictWord(t, k, verdictWordOf(k))
	}
	for _, k := range farInts {
		checkVerdictWord(t, k, verdictWordOf(k))
	}
}

// resetPlaces are numbers that a connection may expect.
func resetPlaces() []int {
	list := slices.Concat(receiverPlaces, []int{0, 2147483647, 2147483648, 4294967295})
	for seed := range 20 {
		list = append(list, drawnNumber(seed+77)&last)
	}
	return list
}

// offsetsAround are places before the expected number, in the window and behind it, and
// some far away.
func offsetsAround(room, seed int) []int {
	list := []int{-half, -half + 1, -65536, -1000, -33, -32, 33, 100, 1000, 65535, 65536, 1073725440, half - 33, half - 2, half - 1}
	for offset := -6; offset <= room+6; offset++ {
		list = append(list, offset)
	}
	for n := range 6 {
		list = append(list, 1000+drawnNumber(8*seed+n)%(last-2000))
	}
	return list
}

// resetWanted is what a RST at an offset from the expected number is answered by.
func resetWanted(c impl.Conn, offset int) int {
	switch {
	case c.State == impl.StClosed:
		return impl.VdDrop
	case offset == 0:
		return impl.VdReset
	case offset > 0 && offset < ownRoom(c.R):
		return impl.VdChallenge
	}
	return impl.VdDrop
}

func TestOnlyTheNextNumberResets(t *testing.T) {
	answers := map[int]int{}
	for i, next := range resetPlaces() {
		for j, c := range connsAt(next) {
			for k, offset := range offsetsAround(ownRoom(c.R), 300*i+j) {
				seq := exactMod(next, offset, 0)
				want := resetWanted(c, offset)
				body := manyBytes[:k%3]
				for _, other := range []int{0, impl.FlFin, impl.FlSyn, impl.FlPsh, impl.FlAck, 32} {
					g := segmentFor(impl.FlRst|other, seq, exactMod(c.S.Una, k%5-2, 0), body)
					got := impl.Verdict(c, g)
					if got != want {
						t.Fatalf("Verdict(%s, %s) = %d, want %d", connShown(c), segmentShown(g), got, want)
					}
					answers[got]++
				}
				// Any of the 32 combinations without FlRst, and one that is fine.
				for _, flags := range []int{(i + j + k) % 64 &^ impl.FlRst, impl.FlAck} {
					g := segmentFor(flags, seq, c.S.Una, body)
					if impl.Verdict(c, g) == impl.VdReset {
						t.Fatalf("Verdict(%s, %s) is a reset", connShown(c), segmentShown(g))
					}
				}
			}
		}
	}
	if answers[impl.VdReset] < 40000 || answers[impl.VdChallenge] < 200000 || answers[impl.VdDrop] < 1000000 {
		t.Error("the answers are", answers)
	}
}

// The connections of these tests are valid, and have the windows that they should have.
func TestConnsOfTheVerdicts(t *testing.T) {
	for _, next := range resetPlaces() {
		windows := map[string]bool{}
		for _, c := range connsAt(next) {
			checkConnOk(t, c, true)
			if c.R.Next != next || impl.WindowOf(c.R) != ownRoom(c.R) {
				t.Errorf("%s expects another number than %d", connShown(c), next)
			}
			windows[fmt.Sprint(c.State, " ", ownRoom(c.R))] = true
		}
		for state := 1; state <= 3; state++ {
			for window := range 33 {
				if !windows[fmt.Sprint(state, " ", window)] {
					t.Errorf("no connection in state %d has a window of %d", state, window)
				}
			}
		}
	}
}

// Whatever else a RST has, it is answered in the same way.
func TestVerdictOfResetsWithOtherFields(t *testing.T) {
	for _, next := range []int{0, 2000, half, last - 3, last} {
		for _, c := range connsAt(next) {
			for _, offset := range []int{-2, -1, 0, 1, ownRoom(c.R) - 1, ownRoom(c.R), ownRoom(c.R) + 1, half - 1, -half} {
				seq, want := exactMod(next, offset, 0), resetWanted(c, offset)
				for n, body := range []string{"", "x", manyBytes, someBytes(1420, 3)} {
					g := impl.Segment{From: 65535 * (n & 1), To: 80 * (n >> 1), Seq: seq, Ack: someInt(n) & last, Flags: impl.FlRst | 16*(n&1), Window: 65535 * (n & 1), Opts: someOptions(n), Body: body}
					checkVerdict(t, c, g, want)
					g.Opts, g.Ack = allOptions, exactMod(c.S.Una, -half, 0)
					checkVerdict(t, c, g, want)
				}
			}
		}
	}
}

func TestAcceptable(t *testing.T) {
	abc := someBytes(40, 1)
	for i, x := range []struct {
		r          impl.Receiver
		flags, seq int
		body       string
		want       bool
	}{
		{open(2000, ""), 0, 2000, "", true}, {open(2000, ""), 0, 1999, "", false}, {open(2000, ""), 0, 2001, "", true}, {open(2000, ""), 0, 2031, "", true}, {open(2000, ""), 0, 2032, "", false},
		{open(2000, ""), 16, 2000, "x", true}, {open(2000, ""), 16, 1999, "x", false}, {open(2000, ""), 16, 2031, "x", true}, {open(2000, ""), 16, 2032, "x", false},
		{open(2000, ""), impl.FlFin, 1999, "", false}, {open(2000, ""), impl.FlFin, 1999, "x", true}, {open(2000, ""), impl.FlSyn, 1999, "", false}, {open(2000, ""), impl.FlSyn | impl.FlFin, 1999, "", true}, {open(2000, ""), impl.FlSyn | impl.FlFin, 1998, "", false},
		{open(2000, ""), 0, 1960, abc, false}, {open(2000, ""), 0, 1961, abc, true}, {open(2000, ""), 0, 1996, abc, true}, {open(2000, ""), impl.FlFin, 1960, abc, true}, {open(2000, ""), impl.FlFin, 1959, abc, false},
		{open(2000, "data"), 0, 2027, "", true}, {open(2000, "data"), 0, 2028, "", false}, {open(2000, "data"), 0, 2027, abc, true}, {open(2000, "data"), 0, 2028, abc, false}, {open(2000, "data"), 0, 1999, abc, true},
		{open(2000, manyBytes[:31]), 0, 2000, "", true}, {open(2000, manyBytes[:31]), 0, 2001, "", false}, {open(2000, manyBytes[:31]), 0, 2000, "ab", true}, {open(2000, manyBytes[:31]), 0, 2001, "ab", false}, {open(2000, manyBytes[:31]), 0, 1999, "ab", true}, {open(2000, manyBytes[:31]), 0, 1998, "ab", false},
		{open(2000, manyBytes[:32]), 0, 2000, "", true}, {open(2000, manyBytes[:32]), 0, 2001, "", false}, {open(2000, manyBytes[:32]), 0, 1999, "", false}, {open(2000, manyBytes[:32]), 0, 2000, "x", false}, {open(2000, manyBytes[:32]), impl.FlFin, 2000, "", false}, {open(2000, manyBytes[:32]), 0, 1990, abc, false},
		{closed(2000, ""), 0, 2000, "", true}, {closed(2000, ""), 0, 2001, "", false}, {closed(2000, ""), 0, 1999, "", false}, {closed(2000, ""), impl.FlFin, 1999, "", false}, {closed(2000, ""), impl.FlFin, 2000, "", false}, {closed(2000, ""), 0, 1990, abc, false},
		{open(last, ""), 0, last, "", true}, {open(last, ""), 0, 0, "", true}, {open(last, ""), 0, 30, "", true}, {open(last, ""), 0, 31, "", false}, {open(last, ""), 0, last - 1, "", false}, {open(last, ""), 0, last - 1, "xy", true}, {open(last, ""), 0, last - 1, "x", false}, {open(last, ""), 0, 31, "x", false},
		{open(0, ""), 0, 0, "", true}, {open(0, ""), 0, last, "", false}, {open(0, ""), 0, last, "x", false}, {open(0, ""), 0, last, "xy", true}, {open(0, ""), impl.FlFin, last, "x", true}, {open(0, ""), 0, last - 39, abc, false}, {open(0, ""), 0, last - 38, abc, true}, {open(0, ""), 0, half, abc, false},
		{closing(2000, "", 1), 0, 2031, "x", true}, {closing(2000, "", 1), 0, 2031, "", true}, {closing(2000, "", 1), 0, 2032, "x", false}, {open(2000, "", piece(5, "abc")), 0, 2005, "abc", true}, {open(2000, "", piece(5, "abc")), 0, 2006, "", true},
	} {
		for state := 0; state <= 9; state++ {
			c := connIn(1)
			c.State, c.R = state, x.r
			if got := impl.Acceptable(c, segmentFor(x.flags, x.seq, 1000, x.body)); got != x.want {
				t.Errorf("%d: Acceptable is %v", i, got)
			}
			checkAcceptable(t, c, segmentFor(x.flags, x.seq, 1000, x.body), x.want)
		}
	}
}

// Of a segment, the last number or the first one may be the only one in the window.
func TestAcceptableOfEachEnd(t *testing.T) {
	for _, next := range receiverPlaces {
		for n := range 33 {
			c := connIn(1)
			c.R = receiverWith(next, n, false)
			window := 32 - n
			for _, x := range sizedSegments {
				check := func(offset int, want bool) {
					checkAcceptable(t, c, segmentFor(x.flags, exactMod(next, offset, 0), last, someBytes(x.bytes, 2)), want)
				}
				check(0, x.size == 0 || window > 0)
				check(window-1, window > 0)
				check(window, x.size == 0 && window == 0)
				check(window+1, false)
				check(half-1, false)
				check(-half, false)
				if x.size == 0 {
					check(-1, false)
					check(1, window > 1)
					continue
				}
				check(-x.size-1, false)
				check(-x.size, false)
				check(-x.size+1, window > 0)
				check(-x.size+2, x.size > 1 && window > 0 || window > 1)
			}
		}
	}
}

func TestAcceptableOfEachOffset(t *testing.T) {
	for _, next := range []int{0, 1, 2000, half - 1, last - 20, last} {
		for n := range 33 {
			for _, done := range bools {
				c := connIn(8)
				c.R = receiverWith(next, n, done)
				window := numberIf(!done, 32-n)
				for _, x := range sizedSegments[:24] {
					for offset := -x.size - 4; offset < window+4; offset++ {
						g := segmentFor(x.flags, exactMod(next, offset, 0), 0, someBytes(x.bytes, 1))
						want := offset < window && offset+x.size > 0 && window > 0
						if x.size == 0 {
							want = offset == 0 || offset > 0 && offset < window
						}
						if got := impl.Acceptable(c, g); got != want {
							t.Fatalf("Acceptable(%s, %s) = %v", connShown(c), segmentShown(g), got)
						}
					}
				}
			}
		}
	}
}

func TestAcceptableOfClosedWindows(t *testing.T) {
	for _, next := range slices.Concat(receiverPlaces, []int{2000, last - 40}) {
		for _, r := range []impl.Receiver{open(next, manyBytes[:32]), closed(next, ""), closed(next, "abc"), closed(next, manyBytes[:32])} {
			c := connIn(8)
			c.R = r
			for _, x := range sizedSegments {
				for _, offset := range []int{0, 1, 2, 31, 32, 33, half - 1, -half, -1, -2, -3, -x.size - 1, -x.size, -x.size + 1, -x.size + 2} {
					g := segmentFor(x.flags, exactMod(next, offset, 0), 0, someBytes(x.bytes, 2))
					checkAcceptable(t, c, g, x.size == 0 && offset == 0)
				}
			}
		}
	}
}

// Seq and R.Next count modulo 2^32, though neither of these is a word.
func TestAcceptableOfFarNumbers(t *testing.T) {
	for _, x := range []struct {
		next, seq int
		flags     int
		body      string
		want      bool
	}{
		{last, -1, 0, "", true}, {last, -1, 0, "x", true}, {0, -1, 0, "", false}, {0, -1, 0, "x", false}, {0, -1, 0, "xy", true}, {0, -1, impl.FlFin, "x", true}, {0, -1, impl.FlFin, "", false},
		{0, all, 0, "", true}, {0, all, 0, "x", true}, {1, all, 0, "", false}, {1, all, 0, "x", false}, {1, all, 0, "xy", true}, {last, all, 0, "", true}, {0, all + 31, 0, "", true}, {0, all + 32, 0, "", false}, {0, all + 31, 0, "x", true}, {0, all + 32, 0, "x", false},
		{last, mostInt, 0, "", true}, {last, mostInt, 0, "x", true}, {0, mostInt, 0, "", false}, {0, mostInt, 0, "x", false}, {0, mostInt, 0, "xy", true}, {last - 31, mostInt, 0, "", true}, {last - 32, mostInt, 0, "", false},
		{0, leastInt, 0, "", true}, {0, leastInt, 0, "x", true}, {1, leastInt, 0, "", false}, {1, leastInt, 0, "x", false}, {1, leastInt, 0, "xy", true}, {last, leastInt, 0, "", true}, {last - 30, leastInt, 0, "", true}, {last - 31, leastInt, 0, "", false},
		{-1, last, 0, "", true}, {-1, 0, 0, "x", true}, {all, 0, 0, "", true}, {all, last, 0, "", false}, {mostInt, leastInt, 0, "", true}, {mostInt, leastInt, 0, "x", true}, {leastInt, mostInt, 0, "", false}, {leastInt, mostInt, 0, "xy", true}, {mostInt, mostInt, 0, "", true}, {leastInt, leastInt, impl.FlFin, "", true},
	} {
		c := connIn(1)
		c.R = open(x.next, "")
		checkAcceptable(t, c, segmentFor(x.flags, x.seq, 0, x.body), x.want)
		c.R = closed(x.next, "")
		checkAcceptable(t, c, segmentFor(x.flags, x.seq, 0, x.body), x.body == "" && x.flags == 0 && exactMod(x.next, 0, x.seq) == 0)
	}
	for _, next := range slices.Concat(seqPlaces, farInts) {
		for _, seq := range slices.Concat(seqPlaces, farInts) {
			for _, n := range []int{0, 5, 31, 32, 33} {
				c := connIn(1)
				c.R = open(next, manyBytes[:n])
				for _, g := range []impl.Segment{segmentFor(16, seq, 0, ""), segmentFor(16, seq, 0, "x"), segmentFor(1, seq, 0, "xy")} {
					checkAcceptable(t, c, g, accepted(c, g))
				}
			}
		}
	}
}

// Of a body that no segment can have, the first 65536 numbers count.
func TestAcceptableOfLongSegments(t *testing.T) {
	for _, next := range []int{0, 2000, last} {
		for _, size := range []int{1421, 65534, 65535, 65536, 65537, 65538, 70000} {
			body := strings.Repeat("a", size)
			for _, flags := range []int{0, impl.FlFin, impl.FlSyn | impl.FlFin} {
				n := size + flags&1 + flags>>1
				counted := min(n, 65536)
				c := connIn(1)
				c.R = open(next, "data")
				for _, end := range []int{-n, -counted, -65536, 0, 28} {
					for offset := end - 4; offset < end+4; offset++ {
						g := segmentFor(flags, exactMod(next, offset, 0), 0, body)
						if got := impl.Acceptable(c, g); got != (offset < 28 && offset+counted > 0) {
							t.Errorf("Acceptable with %d bytes and the Flags %d at offset %d is %v", size, flags, offset, got)
						}
					}
				}
			}
		}
	}
}

// The chapter names no arguments that Acceptable refuses.
func TestAcceptableOfRefusedArguments(t *testing.T) {
	segments := func(next int) []impl.Segment {
		var list []impl.Segment
		for _, offset := range []int{-2, -1, 0, 1, 27, 28, 31, 32} {
			for _, x := range sizedSegments[:20] {
				list = append(list, segmentFor(x.flags, exactMod(next, offset, 0), 0, someBytes(x.bytes, 1)))
			}
		}
		return list
	}
	for _, r := range refusedReceivers() {
		c := connIn(1)
		c.R = r
		for _, g := range segments(exactMod(r.Next, 0, 0)) {
			checkAcceptable(t, c, g, accepted(c, g))
		}
	}
	for _, c := range brokenConns() {
		for _, offset := range []int{-1, 0, 1, 100} {
			for _, body := range []string{"", "xy"} {
				g := segmentFor(16, exactMod(c.R.Next, offset, 0), 0, body)
				checkAcceptable(t, c, g, accepted(c, g))
			}
		}
	}
	for _, set := range segmentSetters {
		for _, n := range segmentNumbers {
			for _, g := range segments(2000) {
				c := connIn(1)
				set(&g, n)
				checkAcceptable(t, c, g, accepted(c, g))
			}
		}
	}
	for _, o := range refusedOptions() {
		g := segmentFor(16, 2000, 0, "x")
		g.Opts = o
		checkAcceptable(t, connIn(1), g, true)
		g.Seq = 1999
		checkAcceptable(t, connIn(1), g, false)
	}
}

func TestAckFits(t *testing.T) {
	for _, list := range [][]struct {
		most, sent int
		finSent    bool
		ahead      int
		want       bool
	}{acksAround, acksOfRefused} {
		for _, x := range list {
			for _, una := range slices.Concat(senderPlaces, []int{1000, last - 5, noPlaces[0], noPlaces[5], mostInt, leastInt}) {
				ack := exactMod(una, x.ahead, 0)
				for state := 0; state <= 9; state++ {
					c := connIn(1)
					c.State, c.Window, c.Most = state, 5, x.most
					c.S = impl.Sender{Una: una, Data: someBytes(48, 1), Sent: x.sent, Fin: x.finSent, FinSent: x.finSent}
					checkAckFits(t, c, ack, x.want)
					// What is given, but not sent, does not count, nor what is expected.
					c.S.Data, c.S.Fin, c.R.Next, c.Window = "", !c.S.Fin, ack, x.most
					checkAckFits(t, c, ack, x.want)
				}
			}
		}
	}
}

func TestAckFitsOfEachNumber(t *testing.T) {
	for _, una := range []int{0, 1, 30, 1000, half - 20, half, last - 48, last - 10, last} {
		for most := range 12 {
			for _, s := range []impl.Sender{sending(una, "", 0), sending(una, "abc", 0), sending(una, "abc", 2), sending(una, "abc", 3), ending(una, "abc", 3), ended(una, "abc"), ended(una, ""), finished(una), sending(una, someBytes(48, 1), 47), ended(una, someBytes(48, 1))} {
				c := connIn(8)
				c.S, c.Most, c.Window = s, most, most/2
				for ahead := -20; ahead < 70; ahead++ {
					checkAckFits(t, c, exactMod(una, ahead, 0), ahead >= -most && ahead <= itemsSent(s))
				}
			}
		}
	}
}

// Every acknowledgment that changes a sender fits, and so does that of all it has sent.
func TestAckFitsWhatIsAcked(t *testing.T) {
	for _, s := range goodSenders() {
		c := connIn(8)
		c.S, c.Most, c.Window = s, 3, 3
		for ahead := -5; ahead < 60; ahead++ {
			ack := exactMod(s.Una, ahead, 0)
			_, ok := impl.Acked(s, ack)
			if got := impl.AckFits(c, ack); got != (ok || ahead < 0 && ahead >= -3) {
				t.Errorf("AckFits of %s and %d is %v, but Acked %v", senderShown(s), ack, got, ok)
			}
		}
		checkAckFits(t, c, impl.NextOf(s), true)
		checkAckFits(t, c, impl.NextOf(s)+1, false)
	}
}

// The acknowledgment counts modulo 2^32, though it is no word.
func TestAckFitsOfFarNumbers(t *testing.T) {
	for _, x := range []struct {
		una, ack int
		want     bool
	}{
		{last, -1, true}, {0, -1, true}, {5, -1, false}, {4, -1, true}, {last - 4, -1, true}, {last - 5, -1, false},
		{0, all, true}, {5, all, true}, {6, all, false}, {last, all, true}, {last - 3, all, true}, {last - 4, all, false}, {100, all + 104, true}, {100, all + 105, false}, {100, all + 95, true}, {100, all + 94, false},
		{last, mostInt, true}, {last - 4, mostInt, true}, {last - 5, mostInt, false}, {4, mostInt, true}, {5, mostInt, false},
		{0, leastInt, true}, {5, leastInt, true}, {6, leastInt, false}, {last - 3, leastInt, true}, {last - 4, leastInt, false},
		{-1, last, true}, {-1, 3, true}, {-1, 4, false}, {all + 100, 104, true}, {all + 100, 105, false}, {mostInt, leastInt, true}, {leastInt, mostInt, true}, {mostInt, 3, true}, {mostInt, 4, false},
	} {
		c := connIn(1)
		c.S, c.Most, c.Window = sending(x.una, "abcdef", 4), 5, 5
		checkAckFits(t, c, x.ack, x.want)
	}
	for _, una := range slices.Concat(seqPlaces, farInts) {
		for _, ack := range slices.Concat(seqPlaces, farInts) {
			for _, most := range []int{0, 2, half - 1, half, leastInt} {
				c := connIn(1)
				c.S, c.Most = sending(una, "abcdef", 4), most
				checkAckFits(t, c, ack, ackTaken(c, ack))
			}
		}
	}
}

func TestAckFitsOfRefusedConns(t *testing.T) {
	for _, s := range refusedSenders() {
		c := connIn(1)
		c.S = s
		for ahead := -4; ahead < 8; ahead++ {
			for _, most := range []int{-1, 0, 3, mostWindow + 1} {
				c.Most = most
				checkAckFits(t, c, exactMod(s.Una, ahead, 0), ackTaken(c, exactMod(s.Una, ahead, 0)))
			}
		}
	}
	for _, c := range brokenConns() {
		for _, ahead := range []int{-801, -800, -1, 0, 1, 4, 5, 7, 8} {
			checkAckFits(t, c, exactMod(c.S.Una, ahead, 0), ackTaken(c, exactMod(c.S.Una, ahead, 0)))
		}
	}
	// All that a bound may overflow with.
	for _, most := range farInts {
		for _, sent := range farInts {
			for _, finSent := range bools {
				c := connIn(1)
				c.Most, c.S.Sent, c.S.FinSent = most, sent, finSent
				for _, ahead := range []int{-half, -half + 1, -65, -2, -1, 0, 1, 2, 64, half - 1} {
					checkAckFits(t, c, exactMod(1000, ahead, 0), ackTaken(c, exactMod(1000, ahead, 0)))
				}
			}
		}
	}
}

func TestVerdict(t *testing.T) {
	const rst, syn, fin, ack = impl.FlRst, impl.FlSyn, impl.FlFin, impl.FlAck
	base := connIn(1)
	if base.S.Una != 1000 || base.S.Sent != 4 || base.Most != 800 || base.R.Next != 2000 || impl.WindowOf(base.R) != 28 {
		t.Fatal("the connection is", connShown(base))
	}
	for i, x := range []struct {
		flags, seq, ack int
		body            string
		want            int
	}{
		// a RST, whatever else the segment is
		{rst, 2000, 1000, "", 2}, {rst, 2000, 0, "", 2}, {rst | ack, 2000, 1000, "", 2}, {rst | ack, 2000, 1005, "", 2}, {rst | syn, 2000, 1000, "", 2}, {rst | fin, 2000, 0, "xy", 2}, {63, 2000, 1000, "", 2},
		{rst, 2001, 1000, "", 3}, {rst, 2027, 1000, "", 3}, {rst | ack, 2027, 1000, "", 3}, {rst | syn, 2001, 0, "", 3}, {rst | fin, 2027, 0, "xy", 3}, {63, 2027, 1000, "", 3},
		{rst, 2028, 1000, "", 1}, {rst, 1999, 1000, "", 1}, {rst | ack, 2028, 1000, "", 1}, {rst | ack, 1999, 1000, "", 1}, {rst | syn, 1999, 0, "", 1}, {rst | fin, 1999, 0, "xy", 1}, {rst | ack, 2028, 0, "x", 1}, {63, 2028, 1000, "", 1}, {rst, 1000, 0, "", 1}, {rst, 1004, 0, "", 1}, {rst, 0, 0, "", 1}, {rst, 4294967295, 0, "", 1},
		// a SYN, wherever it is
		{syn, 2000, 1000, "", 3}, {syn, 2000, 0, "", 3}, {syn | ack, 2000, 1000, "", 3}, {syn | ack, 2000, 1005, "", 3}, {syn, 1999, 0, "", 3}, {syn | ack, 1999, 1000, "", 3}, {syn, 2028, 0, "", 3}, {syn | ack, 5000, 1005, "xy", 3}, {syn | fin, 0, 0, "", 3}, {syn | fin | ack, 2000, 1000, "x", 3}, {59, 2000, 1000, "", 3},
		// outside of the window
		{ack, 1999, 1000, "", 4}, {ack, 2028, 1000, "", 4}, {ack, 1999, 1005, "", 4}, {ack, 2028, 199, "", 4}, {0, 1999, 1000, "", 4}, {0, 2028, 1000, "x", 4}, {fin, 2028, 0, "", 4}, {fin | ack, 1999, 1000, "", 4}, {fin, 1999, 1000, "", 4}, {ack, 1998, 1000, "ab", 4}, {ack, 2028, 1000, "ab", 4}, {8, 1998, 1005, "ab", 4}, {32, 0, 0, "", 4}, {ack, 1000, 2000, "", 4}, {57, 1999, 1000, "", 4},
		// without an ACK
		{0, 2000, 1000, "", 1}, {0, 2000, 1005, "", 1}, {0, 2027, 0, "x", 1}, {fin, 2000, 1000, "", 1}, {fin, 1999, 1000, "x", 1}, {8, 2001, 1000, "x", 1}, {32, 2000, 1000, "", 1}, {41, 2000, 1000, "x", 1}, {0, 1998, 1000, "abc", 1},
		// with an ack that does not fit
		{ack, 2000, 1005, "", 3}, {ack, 2000, 199, "", 3}, {ack, 2000, 0, "", 3}, {ack | fin, 2000, 1005, "", 3}, {ack, 1999, 1005, "xy", 3}, {ack, 2027, 1005, "xy", 3}, {ack | 8 | 32, 2001, 199, "x", 3}, {ack, 2000, 2000, "", 3}, {ack, 2000, 1006, "", 3}, {ack, 2000, 1007, "", 3}, {ack, 2000, 1000 + 2147483648, "", 3},
		// and all the others
		{ack, 2000, 1000, "", 5}, {ack, 2000, 1004, "", 5}, {ack, 2000, 200, "", 5}, {ack, 2001, 999, "", 5}, {ack, 2027, 1000, "", 5}, {ack, 2027, 1000, "xyz", 5}, {ack, 1998, 1000, "abc", 5}, {ack | fin, 2000, 1004, "", 5}, {ack | fin, 1999, 1004, "x", 5}, {57, 2000, 1000, "", 5}, {ack | 8, 2000, 1000, manyBytes, 5},
	} {
		g := segmentFor(x.flags, x.seq, x.ack, x.body)
		if got := impl.Verdict(base, g); got != x.want {
			t.Errorf("%d: Verdict is %d, want %d", i, got, x.want)
		}
		for state := 1; state <= 3; state++ {
			c := connWith(state, stateEnds[state][0])
			// What the own FIN or its acknowledgment takes is moved out of the way.
			c.S.Una = exactMod(1004, 0, itemsSent(c.S))
			if state == 1 || x.ack != 199 && x.ack != 200 {
				checkVerdict(t, c, g, x.want)
			}
		}
		checkVerdict(t, connIn(8), g, impl.VdDrop)
	}
}

// The peer has nothing to send any more, or no room for it: only what occupies nothing is
// acceptable, at R.Next alone.
func TestVerdictOfClosedWindows(t *testing.T) {
	const rst, syn, fin, ack = impl.FlRst, impl.FlSyn, impl.FlFin, impl.FlAck
	for _, next := range slices.Concat(receiverPlaces, []int{2000}) {
		for _, base := range connsInStates() {
			for _, data := range []string{"", "abc", manyBytes[:31], manyBytes[:32]} {
				c := base
				c.R = closed(next, data)
				if !base.R.Done {
					c.R = open(next, manyBytes[:32])
				}
				for _, x := range []struct {
					flags, offset int
					body          string
					want          int
				}{
					{ack, 0, "", 5}, {ack | 8, 0, "", 5}, {ack | 32, 0, "", 5}, {ack, 1, "", 4}, {ack, -1, "", 4}, {ack, 31, "", 4}, {ack, half, "", 4},
					{ack, 0, "x", 4}, {ack | fin, 0, "", 4}, {fin, 0, "", 4}, {0, 0, "x", 4}, {ack, -1, "x", 4}, {ack, 1, "x", 4}, {ack, -1, "xy", 4}, {ack | fin, -1, "", 4}, {ack | fin, -1, "x", 4}, {ack, -5, manyBytes, 4},
					{0, 0, "", 1}, {8, 0, "", 1}, {32, 0, "", 1}, {0, 1, "", 4}, {0, -1, "", 4},
					{rst, 0, "", 2}, {rst | ack, 0, "", 2}, {rst, 0, "x", 2}, {rst | fin | syn, 0, "", 2}, {rst, 1, "", 1}, {rst, -1, "", 1}, {rst | ack, 1, "", 1}, {rst, 31, "x", 1}, {rst | syn, -1, "x", 1}, {rst | syn, 1, "", 1},
					{syn, 0, "", 3}, {syn | ack, 0, "", 3}, {syn, 1, "", 3}, {syn, -1, "x", 3}, {syn | fin, 0, "x", 3},
				} {
					want := x.want
					if c.State == impl.StClosed {
						want = impl.VdDrop
					}
					g := segmentFor(x.flags, exactMod(next, x.offset, 0), c.S.Una, x.body)
					checkVerdict(t, c, g, want)
					if want == impl.VdFine {
						want = impl.VdChallenge
					}
					g.Ack = impl.NextOf(c.S) + 1
					checkVerdict(t, c, g, want)
				}
			}
		}
	}
}

// A window that opens again accepts again, number by number.
func TestVerdictOfOpenedWindows(t *testing.T) {
	for _, next := range []int{0, 2000, last - 31, last} {
		c := connIn(1)
		c.R = open(next, manyBytes[:32])
		for n := range 33 {
			for offset := range 34 {
				seq := exactMod(next, offset, 0)
				fits := offset < n
				checkVerdict(t, c, segmentFor(impl.FlAck, seq, c.S.Una, "x"), impl.VdAck+numberIf(fits, 1))
				checkVerdict(t, c, segmentFor(impl.FlAck, seq, c.S.Una, ""), impl.VdAck+numberIf(fits || offset == 0, 1))
				reset := impl.VdDrop + numberIf(fits, 2)
				if offset == 0 {
					reset = impl.VdReset
				}
				checkVerdict(t, c, segmentFor(impl.FlRst, seq, 0, ""), reset)
			}
			c.R, _ = impl.TakenIn(c.R, 1)
		}
	}
}

func TestVerdictOfAllFlags(t *testing.T) {
	answers := map[int]int{}
	for _, next := range []int{2000, last - 3} {
		for i, c := range connsAt(next) {
			if !slices.Contains([]int{0, 1, 2, 3, 30, 31, 32}, i%33) {
				continue
			}
			room := ownRoom(c.R)
			for _, offset := range []int{0, room / 2, room - 1, room, -1, half} {
				for _, ahead := range []int{0, itemsSent(c.S), itemsSent(c.S) + 1, -c.Most - 1} {
					for flags := range 64 {
						for _, body := range []string{"", "x"} {
							g := segmentFor(flags, exactMod(next, offset, 0), exactMod(c.S.Una, ahead, 0), body)
							want := verdictOf(true, c, g)
							checkVerdict(t, c, g, want)
							answers[want]++
						}
					}
				}
			}
		}
	}
	for verdict := 1; verdict <= 5; verdict++ {
		if answers[verdict] < 1000 {
			t.Error("the answers are", answers)
		}
	}
}

func TestVerdictOfAcks(t *testing.T) {
	for _, x := range acksAround {
		for _, una := range []int{0, 1000, half, last - 48, last - 3, last} {
			for state := 1; state <= 8; state++ {
				c := connIn(state)
				s := sending(una, someBytes(x.sent, 1), x.sent)
				s.Fin, s.FinSent = x.finSent, x.finSent
				if ends := endsOf(s, c.R); !slices.Contains(stateEnds[state], ends) {
					continue
				}
				c.S, c.Window, c.Most = s, min(x.most, 1), x.most
				want := impl.VdFine
				switch {
				case state == 8:
					want = impl.VdDrop
				case !x.want:
					want = impl.VdChallenge
				}
				g := segmentFor(impl.FlAck, c.R.Next, exactMod(una, x.ahead, 0), "")
				checkVerdict(t, c, g, want)
				// An ack is looked at last of all.
				for _, other := range []struct{ flags, offset, want int }{{0, 0, 1}, {impl.FlAck, -1, 4}, {impl.FlAck | impl.FlSyn, 0, 3}, {impl.FlAck | impl.FlRst, 0, 2}, {impl.FlAck | impl.FlRst, -1, 1}} {
					g.Flags, g.Seq = other.flags, exactMod(c.R.Next, other.offset, 0)
					checkVerdict(t, c, g, numberIf(state == 8, 1)+numberIf(state < 8, other.want))
				}
			}
		}
	}
}

// Of two sentences that both apply, the first one decides.
func TestVerdictOfTwoSentences(t *testing.T) {
	var conns []impl.Conn
	for _, c := range connsInStates() {
		full, refused := c, c
		if !c.R.Done {
			full.R = open(2000, manyBytes[:32])
		}
		refused.Timer = 9
		conns = append(conns, c, full, refused)
	}
	const always = 10 // the place of the sentence that applies to everything
	var pairs [always][always]int
	for _, c := range conns {
		for flags := range 64 {
			for _, offset := range []int{-1, 0, 1, 27, 28} {
				for _, ack := range []int{c.S.Una, impl.NextOf(c.S) + 1} {
					for _, body := range []string{"", "x", someBytes(1421, 1)} {
						g := segmentFor(flags, exactMod(2000, offset, 0), ack, body)
						var applies []int
						for i, x := range verdictSentences {
							if x.applies(c, g) {
								applies = append(applies, i)
							}
						}
						first := applies[0]
						checkVerdict(t, c, g, verdictSentences[first].verdict)
						for _, other := range applies {
							if first < other && other < always {
								pairs[first][other]++
							}
						}
					}
				}
			}
		}
	}
	for i, row := range pairs {
		for j := i + 1; j < always; j++ {
			// A RST in the window is never outside of it.
			if inside := i == 4 && j == 7; (row[j] == 0) != inside {
				t.Errorf("there are %d segments where %q is the first, and %q applies", row[j], verdictSentences[i].name, verdictSentences[j].name)
			}
		}
	}
}

// brokenConns have one fault each, in each state, and of each part of ConnOk.
func brokenConns() []impl.Conn {
	var list []impl.Conn
	for _, base := range connsInStates() {
		add := func(change func(c *impl.Conn)) {
			c := copyConn(base)
			change(&c)
			list = append(list, c)
		}
		for _, x := range refusedTuples() {
			add(func(c *impl.Conn) { c.Tuple = x })
		}
		for _, o := range refusedOptions() {
			add(func(c *impl.Conn) { c.Opts = o })
		}
		for _, state := range []int{0, 9, -1, 10, 256, 257, all + 1, all + 8, mostInt, leastInt, leastInt + 1} {
			add(func(c *impl.Conn) { c.State = state })
		}
		for _, n := range []int{leastInt, -all, -1, 5, 6, 256, all, all + 2, mostInt} {
			add(func(c *impl.Conn) { c.Timer = n })
			add(func(c *impl.Conn) { c.Tries = n })
		}
		add(func(c *impl.Conn) {
			c.Timer = numberIf(c.State != impl.StTime, 4) + numberIf(c.State == impl.StTime, 5)
		})
		add(func(c *impl.Conn) { c.Tries = 4 })
		for _, n := range []int{leastInt, -all, -1, 801, mostWindow, all + 5, mostInt} {
			add(func(c *impl.Conn) { c.Window = n })
		}
		for _, n := range []int{mostWindow + 1, half, all + 900, mostInt, 499, 0, -1, leastInt} {
			add(func(c *impl.Conn) { c.Most = n })
		}
		for _, ends := range allEnds {
			if !slices.Contains(stateEnds[base.State], ends) {
				list = append(list, connWith(base.State, ends))
			}
		}
	}
	return list
}

// judgedSegments are one segment for each reason to answer c with something else than
// VdDrop, if c is valid and open.
func judgedSegments(c impl.Conn) []impl.Segment {
	next, una := exactMod(c.R.Next, 0, 0), exactMod(c.S.Una, 0, 0)
	return []impl.Segment{
		segmentFor(impl.FlRst, next, una, ""), segmentFor(impl.FlRst|impl.FlAck, next, una, "x"), segmentFor(impl.FlSyn, next, una, ""), segmentFor(impl.FlSyn|impl.FlAck, exactMod(next, -9, 0), una, ""),
		segmentFor(impl.FlAck, exactMod(next, -1, 0), una, ""), segmentFor(0, exactMod(next, 99, 0), una, "x"), segmentFor(impl.FlAck, next, exactMod(una, 60, 0), ""), segmentFor(impl.FlAck, next, una, ""),
	}
}

var judgedVerdicts = []int{2, 2, 3, 3, 4, 4, 3, 5}

func TestVerdictOfRefusedConns(t *testing.T) {
	drops := func(c impl.Conn) {
		t.Helper()
		checkConnOk(t, c, false)
		for _, g := range judgedSegments(c) {
			checkVerdict(t, c, g, impl.VdDrop)
		}
	}
	for _, c := range connsInStates() {
		for i, g := range judgedSegments(c) {
			want := judgedVerdicts[i]
			if c.State == impl.StClosed {
				want = impl.VdDrop
			}
			checkVerdict(t, c, g, want)
		}
	}
	list := brokenConns()
	if len(list) < 3000 {
		t.Error("there are", len(list), "refused connections")
	}
	for _, c := range list {
		drops(c)
	}
	for state := 1; state <= 8; state++ {
		alone := 0
		for _, s := range refusedSenders() {
			c := connIn(state)
			c.S = s
			drops(c)
			alone += numberIf(slices.Contains(stateEnds[state], endsOf(c.S, c.R)), 1)
		}
		for _, r := range refusedReceivers() {
			c := connIn(state)
			c.R = r
			drops(c)
			alone += numberIf(slices.Contains(stateEnds[state], endsOf(c.S, c.R)), 1)
		}
		if alone < 20 {
			t.Errorf("in state %d, there are %d connections with one fault", state, alone)
		}
	}
}

func TestVerdictOfRefusedSegments(t *testing.T) {
	refused := map[string]int{}
	for _, c := range connsInStates() {
		for _, base := range judgedSegments(c) {
			check := func(name string, change func(g *impl.Segment)) {
				t.Helper()
				g := base
				change(&g)
				if !validSegment(g) {
					checkVerdict(t, c, g, impl.VdDrop)
					refused[name]++
				} else {
					checkVerdict(t, c, g, verdictOf(true, c, g))
				}
			}
			for i, set := range segmentSetters {
				for _, n := range segmentNumbers {
					check(fmt.Sprint("number ", i), func(g *impl.Segment) { set(g, n) })
				}
			}
			for _, add := range []int{all, -all, 3 * all, 1 << 62, -1 << 62} {
				check("Seq", func(g *impl.Segment) { g.Seq += add })
				check("Ack", func(g *impl.Segment) { g.Ack += add })
				check("Flags", func(g *impl.Segment) { g.Flags += add })
			}
			for _, bit := range []int{64, 128, 256, 1 << 16, 1 << 32, 1 << 62, leastInt} {
				check("Flags", func(g *impl.Segment) { g.Flags |= bit })
			}
			for _, o := range refusedOptions() {
				check("Opts", func(g *impl.Segment) { g.Opts = o })
			}
			for seed := range 20 {
				check("other Opts", func(g *impl.Segment) { g.Opts = someOptions(seed) })
			}
			for _, size := range []int{0, 1, 28, 32, 1419, 1420, 1421, 1422, 65536, 70000} {
				check("Body", func(g *impl.Segment) { g.Body = strings.Repeat("b", size) })
			}
		}
	}
	for _, name := range []string{"number 0", "number 1", "number 2", "number 3", "number 4", "number 5", "Seq", "Ack", "Flags", "Opts", "Body"} {
		if refused[name] < 100 {
			t.Errorf("there are %d segments that are refused for their %s", refused[name], name)
		}
	}
	if refused["other Opts"] > 0 {
		t.Error("valid options are refused")
	}
}

// A closed connection answers nothing, not even the exact number.
func TestVerdictOfClosedConns(t *testing.T) {
	for _, c := range connsAt(2000) {
		c.State = impl.StClosed
		for flags := range 64 {
			for _, offset := range []int{-1, 0, 1, 31, 32} {
				checkVerdict(t, c, segmentFor(flags, 2000+offset, c.S.Una, manyBytes[:flags%3]), impl.VdDrop)
			}
		}
		checkAcceptable(t, c, segmentFor(impl.FlAck, 2000, c.S.Una, ""), true)
		checkAckFits(t, c, c.S.Una, true)
	}
}

func TestVerdictOfConfusedNumbers(t *testing.T) {
	const rst, ack = impl.FlRst, impl.FlAck
	verdict := func(c impl.Conn, flags, seq, ackAt int, body string, want int) {
		t.Helper()
		checkVerdict(t, c, segmentFor(flags, seq, ackAt, body), want)
	}
	// the peer's numbers against the own ones
	c := impl.ConnNew(connPeer, 4999, 99, noOptions, 300)
	verdict(c, rst, 100, 5000, "", 2)
	verdict(c, rst, 5000, 100, "", 1)
	verdict(c, rst, 99, 5000, "", 1)
	verdict(c, rst, 101, 5000, "", 3)
	verdict(c, ack, 100, 5000, "", 5)
	verdict(c, ack, 100, 100, "", 3)
	verdict(c, ack, 5000, 5000, "", 4)
	verdict(c, ack, 5000, 100, "", 4)
	// the own window against the peer's, and against the largest one of these
	for _, x := range []struct{ window, most int }{{0, 0}, {0, 300}, {1, 2}, {300, 300}, {32, 32}, {7, mostWindow}, {mostWindow, mostWindow}} {
		c.Window, c.Most = x.window, x.most
		verdict(c, rst, 131, 0, "", 3)
		verdict(c, rst, 132, 0, "", 1)
		verdict(c, ack, 131, 5000, "x", 5)
		verdict(c, ack, 132, 5000, "x", 4)
		verdict(c, ack, 100, exactMod(5000, -x.most, 0), "", 5)
		verdict(c, ack, 100, exactMod(5000, -x.most-1, 0), "", 3)
	}
	c.Window, c.Most = 2, 5
	verdict(c, ack, 100, 4995, "", 5)
	verdict(c, ack, 100, 4994, "", 3)
	verdict(c, ack, 100, 5001, "", 3)
	// what is sent against what is to be sent, and a FIN against one that is given
	c.S, _ = impl.Queued(c.S, "abcdef")
	verdict(c, ack, 100, 5001, "", 3)
	c.S = impl.SentOff(c.S, chunkOf(5000, "abcd", false))
	verdict(c, ack, 100, 5004, "", 5)
	verdict(c, ack, 100, 5005, "", 3)
	verdict(c, ack, 100, 5006, "", 3)
	c.S = impl.SentOff(c.S, chunkOf(5004, "ef", false))
	verdict(c, ack, 100, 5006, "", 5)
	verdict(c, ack, 100, 5007, "", 3)
	c.State, c.S.Fin = impl.StFin1, true
	verdict(c, ack, 100, 5006, "", 5)
	verdict(c, ack, 100, 5007, "", 3)
	c.S = impl.SentOff(c.S, chunkOf(5006, "", true))
	verdict(c, ack, 100, 5007, "", 5)
	verdict(c, ack, 100, 5008, "", 3)
	c.S, _ = impl.Acked(c.S, 5007)
	c.State = impl.StFin2
	verdict(c, ack, 100, 5007, "", 5)
	verdict(c, ack, 100, 5008, "", 3)
	verdict(c, ack, 100, 5002, "", 5)
	verdict(c, ack, 100, 5001, "", 3)
	// the end that the receiver knows against that of its window
	c.R = closing(100, "", 3)
	verdict(c, ack, 103, 5007, "", 5)
	verdict(c, ack, 131, 5007, "x", 5)
	verdict(c, rst, 131, 5007, "", 3)
	verdict(c, rst, 132, 5007, "", 1)
}

// A number that is the same modulo 2^32 is another one for Verdict.
func TestVerdictOfEqualNumbers(t *testing.T) {
	c := connIn(1)
	for _, add := range []int{all, -all, 5 * all, 1 << 62} {
		for _, flags := range []int{impl.FlRst, impl.FlAck} {
			g := segmentFor(flags, 2000, 1000, "")
			checkVerdict(t, c, g, numberIf(flags == impl.FlRst, 2)+numberIf(flags == impl.FlAck, 5))
			g.Seq += add
			checkAcceptable(t, c, g, true)
			checkVerdict(t, c, g, impl.VdDrop)
			g = segmentFor(flags, 2000, 1000+add, "")
			checkAckFits(t, c, g.Ack, true)
			checkVerdict(t, c, g, impl.VdDrop)
			moved := c
			moved.R.Next += add
			g = segmentFor(flags, 2000, 1000, "")
			checkAcceptable(t, moved, g, true)
			checkVerdict(t, moved, g, impl.VdDrop)
			g.Seq += add
			checkAcceptable(t, moved, g, true)
			checkVerdict(t, moved, g, impl.VdDrop)
			moved = c
			moved.S.Una += add
			g = segmentFor(flags, 2000, 1000, "")
			checkAckFits(t, moved, g.Ack, true)
			checkVerdict(t, moved, g, impl.VdDrop)
		}
	}
}

// What begins in the window, ends in it, lies in it, or lies around it, is acceptable.
func TestVerdictOfPartsInTheWindow(t *testing.T) {
	for _, next := range []int{0, 2000, half - 3, last - 20, last} {
		for _, x := range []struct {
			used, offset, size, want int
		}{
			{28, 0, 4, 5}, {28, 1, 2, 5}, {28, 3, 1, 5}, {28, 3, 9, 5}, {28, 3, 1420, 5}, {28, -3, 4, 5}, {28, -3, 5, 5}, {28, -3, 7, 5}, {28, -3, 8, 5}, {28, -700, 1420, 5}, {28, 0, 1420, 5},
			{28, -3, 3, 4}, {28, -1420, 1420, 4}, {28, -1419, 1420, 5}, {28, 4, 1, 4}, {28, 4, 1420, 4}, {28, -1, 1, 4}, {31, 0, 1, 5}, {31, -1, 2, 5}, {31, -1, 3, 5}, {31, 0, 2, 5}, {31, 1, 2, 4}, {31, -2, 2, 4},
			{32, 0, 1, 4}, {32, -1, 2, 4}, {32, -1, 3, 4}, {32, -700, 1420, 4}, {32, -1, 1, 4}, {32, 1, 1, 4},
		} {
			c := connIn(1)
			c.R = open(next, manyBytes[:x.used])
			seq := exactMod(next, x.offset, 0)
			checkVerdict(t, c, segmentFor(impl.FlAck, seq, c.S.Una, someBytes(x.size, 1)), x.want)
			// The FIN counts as the last byte does.
			checkVerdict(t, c, segmentFor(impl.FlAck|impl.FlFin, seq, c.S.Una, someBytes(x.size-1, 1)), x.want)
		}
	}
}

// drawnSegment draws segments beside the numbers that c has.
func drawnSegment(c impl.Conn, seed int) impl.Segment {
	draw := drawnNumber(seed + 1<<24)
	g := impl.Segment{
		From: draw & 65535, To: draw >> 16 & 65535, Seq: exactMod(c.R.Next, draw>>8%48-8, 0), Ack: exactMod(c.S.Una, draw>>16%70-10, 0),
		Flags: draw >> 24 % 64, Window: draw >> 32 & 65535, Opts: someOptions(seed), Body: someBytes(draw>>40%5*(draw>>44%2), seed),
	}
	if draw>>30%4 > 0 {
		g.Flags = g.Flags&^(impl.FlRst|impl.FlSyn) | impl.FlAck
	}
	switch draw >> 48 % 24 {
	case 0:
		g.Seq += all
	case 1:
		g.Ack -= all
	case 2:
		g.Flags += 64
	case 3:
		g.Seq = draw & last
	case 4:
		g.Ack = draw & last
	case 5:
		g.Ack = exactMod(c.S.Una, -c.Most+draw%3-1, 0)
	case 6, 7, 8:
		g.Seq = exactMod(c.R.Next, 0, 0)
	case 9:
		g.Body = someBytes(1415+draw%8, seed)
	}
	return g
}

func TestVerdictOfDrawnArguments(t *testing.T) {
	answers, valid := map[int]int{}, connsAt(last-5)
	for seed := range 30000 {
		c := someConn(seed)
		if seed%2 > 0 {
			c = valid[seed/2%len(valid)]
		}
		g := drawnSegment(c, seed)
		checkVerdictCalls(t, c, g)
		answers[impl.Verdict(c, g)]++
	}
	for verdict := 1; verdict <= 5; verdict++ {
		if answers[verdict] < 100 {
			t.Error("the answers are", answers)
		}
	}
}

// Every function returns, and returns the same again, whatever it is given.
func TestVerdictIsTotal(t *testing.T) {
	defer func() {
		if r := recover(); r != nil {
			t.Fatalf("panic: %v", r)
		}
	}()
	for _, base := range append(connsInStates(), impl.Conn{}) {
		for _, name := range numbersOf(base) {
			for _, n := range farInts {
				c := withNumber(base, name, n)
				for _, g := range judgedSegments(base) {
					checkVerdictCalls(t, c, g)
				}
			}
		}
	}
	for _, set := range segmentSetters {
		for _, n := range farInts {
			for _, c := range append(connsInStates(), impl.Conn{}) {
				g := segmentFor(impl.FlAck, 2000, 1000, "x")
				set(&g, n)
				checkVerdictCalls(t, c, g)
			}
		}
	}
	for _, n := range farInts {
		for _, m := range farInts {
			c := connIn(1)
			for i, name := range numbersOf(c) {
				c = withNumber(c, name, numberIf(i%2 > 0, n)+numberIf(i%2 == 0, m))
			}
			g := impl.Segment{From: n, To: m, Seq: m, Ack: n, Flags: m, Window: n, Opts: impl.Options{Mss: n, Scale: m, Stamp: true, Val: m, Echo: n}, Body: "body"}
			checkVerdictCalls(t, c, g)
			checkVerdictCalls(t, connIn(1), g)
			checkVerdictCalls(t, c, segmentFor(16, 2000, 1000, ""))
		}
	}
	for _, size := range []int{0, 1, 3, 4, 32, 33, 48, 49, 1000, 100000} {
		c := connIn(1)
		c.S.Data, c.R.Data, c.R.Held = someBytes(size, 1), someBytes(size, 2), make([]impl.Piece, size)
		checkVerdictCalls(t, c, segmentFor(16, 2000, 1000, someBytes(size, 3)))
		c.S.Sent, c.R.Held = size, nil
		checkVerdictCalls(t, c, segmentFor(16, 2000, 1000, someBytes(size, 3)))
	}
}

// The functions change nothing of a connection, nor what is beside its pieces.
func TestVerdictLooksOnly(t *testing.T) {
	lists := [][]impl.Piece{nil, {}, {piece(2, "gh")}, {piece(2, "gh"), piece(6, "k")}, {piece(2, "gh"), piece(5, "x"), piece(9, "y")}, make([]impl.Piece, 5)}
	for _, base := range connsInStates() {
		for _, list := range lists {
			held, kept := guardedBy(list, pieceGuard)
			c := base
			c.R.Held = held
			before := copyConn(c)
			for _, g := range judgedSegments(c) {
				given := g
				acceptable, fits, verdict := impl.Acceptable(c, g), impl.AckFits(c, g.Ack), impl.Verdict(c, g)
				if !kept() || !equalConns(c, before) || g != given {
					t.Errorf("a function changed %s or %s", connShown(before), segmentShown(given))
				}
				// Pieces that are elsewhere are the same ones.
				if impl.Acceptable(before, g) != acceptable || impl.AckFits(before, g.Ack) != fits || impl.Verdict(before, g) != verdict {
					t.Errorf("the answers to %s and %s change", connShown(before), segmentShown(g))
				}
			}
			// A change of the argument is no change of what was answered before.
			overwrite(held, piece(-9, "over"))
			for _, g := range judgedSegments(before) {
				checkVerdict(t, before, g, verdictOf(false, before, g))
			}
		}
	}
}

// No call depends on other calls, before it or at the same time.
func TestVerdictKeepsNothing(t *testing.T) {
	shared := connIn(1)
	checkAtOnce(t, func(worker int, faults map[string]int) {
		for n := range 1500 {
			seed := n + 1500*worker
			drawn := someConn(seed)
			count := func(name string, right bool) {
				if !right {
					faults[name]++
				}
			}
			for _, c := range []impl.Conn{drawn, shared} {
				g := drawnSegment(c, seed)
				count("Acceptable", impl.Acceptable(c, g) == accepted(c, g))
				count("AckFits", impl.AckFits(c, g.Ack) == ackTaken(c, g.Ack))
				verdict := impl.Verdict(c, g)
				count("Verdict", verdict == verdictOf(false, c, g))
				count("VerdictWord", impl.VerdictWord(verdict) == verdictWords[verdict])
			}
		}
	})
}
