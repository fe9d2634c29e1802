package tests

import (
	"fmt"
	"reflect"
	"slices"
	"strings"
	"testing"

	"loop.example/g00504/impl"
)

const mostWindow = 1073725440

var connPeer = impl.Tuple{Ip: fromIp, Port: 40000, My: 80}

// synNumbers are numbers that a SYN may have, each with the one behind it.
var synNumbers = []struct{ first, next int }{
	{0, 1}, {1, 2}, {2147483647, 2147483648}, {2147483648, 2147483649}, {4294967294, 4294967295}, {4294967295, 0},
}

// farSynNumbers are no numbers of a SYN, but count modulo 2^32.
var farSynNumbers = []struct{ first, next int }{
	{4294967296, 1}, {4294967297, 2}, {-1, 0}, {-2, 4294967295}, {-4294967296, 1}, {mostInt, 0}, {mostInt - 1, 4294967295}, {leastInt, 1}, {leastInt + 1, 2}, {1 << 62, 1},
}

var (
	connScales  = []int{-1, 0, 1, 7, 13, 14}
	connWindows = []int{0, 1, 2, 1000, 32767, 32768, 65534, 65535}
	// noConnWindows are no 16-bit words, though some have the lowest bits of one.
	noConnWindows = []int{65536, 65537, 65536 + 1000, all, all + 5, 1 << 62, mostInt - 1, mostInt, -1, -2, -65535, -65536, -all, leastInt, leastInt + 1, leastInt + 5}
)

var stateWords = []string{"", "est", "fin1", "fin2", "wait", "closing", "last", "time", "closed"}

// allEnds are the ways in which a sender and a receiver may have ended: f with S.Fin,
// d with S.Done, r with R.Done.
var allEnds = []string{"", "f", "fd", "r", "fr", "fdr"}

// stateEnds are the ends that a connection in each state may have.
var stateEnds = map[int][]string{
	1: {""}, 2: {"f"}, 3: {"fd"}, 4: {"r"}, 5: {"fr"}, 6: {"fr"}, 7: {"fdr"}, 8: {"", "f", "fd", "r", "fr", "fdr"},
}

// endSentences are the document's three sentences: where a flag is set, and where not.
var endSentences = []struct {
	flag       string
	set, unset []int
}{
	{"f", []int{2, 3, 5, 6, 7}, []int{1, 4}},
	{"d", []int{3, 7}, []int{1, 2, 4, 5, 6}},
	{"r", []int{4, 5, 6, 7}, []int{1, 2, 3}},
}

func endsOf(s impl.Sender, r impl.Receiver) string {
	text := ""
	for i, set := range []bool{s.Fin, s.Done, r.Done} {
		if set {
			text += "fdr"[i : i+1]
		}
	}
	return text
}

// sendersWithEnds are valid senders of all kinds, of those that have ended so.
func sendersWithEnds(ends string) []impl.Sender {
	return slices.DeleteFunc(goodSendersAt(0, 1000, last-2, last), func(s impl.Sender) bool {
		return endsOf(s, impl.Receiver{}) != strings.TrimSuffix(ends, "r")
	})
}

func receiversWithEnds(ends string) []impl.Receiver {
	list := slices.Concat(receiversAt(0), receiversAt(2000), receiversAt(last-3), receiversAt(last))
	return slices.DeleteFunc(list, func(r impl.Receiver) bool { return r.Done != strings.HasSuffix(ends, "r") })
}

// connWith is a connection that is valid if its state may have these ends.
func connWith(state int, ends string) impl.Conn {
	c := impl.Conn{
		Tuple: connPeer, State: state, S: sending(1000, "abcdef", 4), R: open(2000, "data", piece(2, "gh"), piece(6, "k")),
		Window: 500, Most: 800, Opts: allOptions, Timer: 2, Tries: 1,
	}
	switch strings.TrimSuffix(ends, "r") {
	case "f":
		c.S = ended(1000, "abcdef")
	case "fd":
		c.S = finished(1007)
	}
	if strings.HasSuffix(ends, "r") {
		c.R = closed(2000, "data")
	}
	return c
}

// connIn is a valid connection.
func connIn(state int) impl.Conn { return connWith(state, stateEnds[state][0]) }

// connsInStates are valid connections in all states, with all ends that these have.
func connsInStates() []impl.Conn {
	var list []impl.Conn
	for state := 1; state <= 8; state++ {
		for _, ends := range stateEnds[state] {
			list = append(list, connWith(state, ends))
		}
	}
	return list
}

func copyConn(c impl.Conn) impl.Conn {
	c.R = copyReceived(c.R)
	return c
}

// equalConns compares, besides the receivers, whatever fields there are.
func equalConns(a, b impl.Conn) bool {
	received := sameReceived(a.R, b.R)
	a.R, b.R = impl.Receiver{}, impl.Receiver{}
	return received && reflect.DeepEqual(a, b)
}

func validConn(c impl.Conn) bool {
	if !validTuple(c.Tuple) || !validSender(c.S) || !validReceiver(c.R) || !validOptions(c.Opts) {
		return false
	}
	longest := 3 + numberIf(c.State == 7, 1)
	windows := 0 <= c.Window && c.Window <= c.Most && c.Most <= mostWindow
	times := 0 <= c.Timer && c.Timer <= longest && 0 <= c.Tries && c.Tries <= 3
	return windows && times && slices.Contains(stateEnds[c.State], endsOf(c.S, c.R))
}

// newConn doubles the window as often as the scale says.
func newConn(x impl.Tuple, iss, irs int, o impl.Options, window int) impl.Conn {
	if !validOptions(o) {
		o = noOptions
	}
	if !isWord(window, 16) {
		window = 0
	}
	for n := 0; n < o.Scale; n++ {
		window += window
	}
	return impl.Conn{Tuple: x, State: 1, S: sending(exactMod(iss, 1, 0), "", 0), R: open(exactMod(irs, 1, 0), ""), Window: window, Most: window, Opts: o}
}

func mssIn(mss int) int {
	switch {
	case mss < 0:
		return 1
	case mss == 0:
		return 536
	case mss > 1460:
		return 1460
	}
	return mss
}

func ackFrom(c impl.Conn) impl.Segment {
	window := 0
	if !c.R.Done && len(c.R.Data) < 32 {
		window = 32 - len(c.R.Data)
	}
	seq := exactMod(c.S.Una, c.S.Sent, -numberIf(c.S.FinSent, 1))
	return impl.Segment{From: c.Tuple.My, To: c.Tuple.Port, Seq: seq, Ack: c.R.Next, Flags: 16, Window: window, Opts: impl.Options{Scale: -1}}
}

func stateWordOf(k int) string {
	if k < 1 || k > 8 {
		return ""
	}
	return stateWords[k]
}

func connShown(c impl.Conn) string {
	return fmt.Sprintf("{%v, State %d, S %s, R %s, Window %d of %d, %+v, Timer %d, Tries %d}",
		c.Tuple, c.State, senderShown(c.S), receiverShown(c.R), c.Window, c.Most, c.Opts, c.Timer, c.Tries)
}

func checkConnNew(t *testing.T, x impl.Tuple, iss, irs int, o impl.Options, window int, want impl.Conn) {
	t.Helper()
	for range 2 {
		if got := impl.ConnNew(x, iss, irs, o, window); !equalConns(got, want) {
			t.Errorf("ConnNew(%v, %d, %d, %+v, %d) = %s, want %s", x, iss, irs, o, window, connShown(got), connShown(want))
		}
	}
}

func checkConnOk(t *testing.T, c impl.Conn, want bool) {
	t.Helper()
	before := copyConn(c)
	for range 2 {
		if got := impl.ConnOk(c); got != want {
			t.Errorf("ConnOk of %s = %v", connShown(c), got)
		}
	}
	if !equalConns(c, before) {
		t.Errorf("ConnOk changed %s to %s", connShown(before), connShown(c))
	}
}

// checkSameConns compares both ways round.
func checkSameConns(t *testing.T, a, b impl.Conn, want bool) {
	t.Helper()
	beforeA, beforeB := copyConn(a), copyConn(b)
	for range 2 {
		if impl.SameConn(a, b) != want || impl.SameConn(b, a) != want {
			t.Errorf("SameConn of %s and %s is not %v both ways round", connShown(a), connShown(b), want)
		}
	}
	if !equalConns(a, beforeA) || !equalConns(b, beforeB) {
		t.Errorf("SameConn changed %s or %s", connShown(beforeA), connShown(beforeB))
	}
}

func checkMssFor(t *testing.T, c impl.Conn, want int) {
	t.Helper()
	before := copyConn(c)
	for range 2 {
		if got := impl.MssFor(c); got != want {
			t.Errorf("MssFor with an Mss of %d = %d, want %d", c.Opts.Mss, got, want)
		}
	}
	if !equalConns(c, before) {
		t.Errorf("MssFor changed %s to %s", connShown(before), connShown(c))
	}
}

func checkAckOf(t *testing.T, c impl.Conn, want impl.Segment) {
	t.Helper()
	before := copyConn(c)
	for range 2 {
		if got := impl.AckOf(c); got != want {
			t.Errorf("AckOf(%s) = %s, want %s", connShown(c), segmentShown(got), segmentShown(want))
		}
	}
	if !equalConns(c, before) {
		t.Errorf("AckOf changed %s to %s", connShown(before), connShown(c))
	}
}

func checkStateWord(t *testing.T, k int, want string) {
	t.Helper()
	for range 2 {
		if got := impl.StateWord(k); got != want {
			t.Errorf("StateWord(%d) = %q, want %q", k, got, want)
		}
	}
}

// checkConnCalls checks what all functions answer of one connection.
func checkConnCalls(t *testing.T, c impl.Conn) {
	t.Helper()
	checkConnOk(t, c, validConn(c))
	checkSameConns(t, c, copyConn(c), true)
	checkMssFor(t, c, mssIn(c.Opts.Mss))
	checkAckOf(t, c, ackFrom(c))
	checkStateWord(t, c.State, stateWordOf(c.State))
	checkConnNew(t, c.Tuple, c.S.Una, c.R.Next, c.Opts, c.Window, newConn(c.Tuple, c.S.Una, c.R.Next, c.Opts, c.Window))
}

func TestConnConstants(t *testing.T) {
	states := []int{impl.StEst, impl.StFin1, impl.StFin2, impl.StWait, impl.StClosing, impl.StLast, impl.StTime, impl.StClosed}
	if !slices.Equal(states, []int{1, 2, 3, 4, 5, 6, 7, 8}) {
		t.Error("the states are", states)
	}
	if impl.MaxTries != 3 || impl.Rto != 3 || impl.Quiet != 4 {
		t.Error("the limits are", impl.MaxTries, impl.Rto, impl.Quiet)
	}
}

// checkStart checks that a connection begins behind the SYNs of both sides.
func checkStart(t *testing.T, iss, irs, una, next int) {
	t.Helper()
	o, window := someOptions(iss&1023+irs&1023), irs&65535
	c := impl.ConnNew(connPeer, iss, irs, o, window)
	checkConnNew(t, connPeer, iss, irs, o, window, newConn(connPeer, iss, irs, o, window))
	if c.S.Una != una || impl.NextOf(c.S) != una || c.R.Next != next {
		t.Errorf("ConnNew with %d and %d begins at %d and %d, next %d, want %d and %d", iss, irs, c.S.Una, c.R.Next, impl.NextOf(c.S), una, next)
	}
	if g := impl.AckOf(c); g.Seq != una || g.Ack != next {
		t.Errorf("AckOf behind %d and %d is %s, want Seq %d and Ack %d", iss, irs, segmentShown(g), una, next)
	}
	checkConnOk(t, c, true)
	// The SYNs themselves are no bytes of the streams.
	s, _ := impl.Queued(c.S, "ab")
	if chunk, ok := impl.NextChunk(s, 9, 9); !ok || chunk != chunkOf(una, "ab", false) {
		t.Errorf("behind %d, the first bytes are sent as %s", iss, chunkShown(chunk))
	}
	checkAckRefused(t, s, iss)
	checkAcked(t, s, una, s, true)
	checkArrived(t, c.R, next, "ab", false, open(exactMod(next, 2, 0), "ab"))
	checkArrived(t, c.R, irs, "ab", false, open(exactMod(next, 1, 0), "b"))
	checkNotArrived(t, c.R, irs, "a", false)
}

func TestConnectionsStartBehindBothNumbers(t *testing.T) {
	for _, iss := range synNumbers {
		for _, irs := range synNumbers {
			checkStart(t, iss.first, irs.first, iss.next, irs.next)
		}
	}
	for seed := range 20000 {
		iss, irs := drawnNumber(2*seed)&last, drawnNumber(2*seed+1)&last
		switch seed % 8 {
		case 0:
			irs = iss
		case 1:
			irs = exactMod(iss, 1, 0)
		case 2:
			iss = exactMod(irs, 1, 0)
		}
		checkStart(t, iss, irs, exactMod(iss, 1, 0), exactMod(irs, 1, 0))
	}
}

func TestConnNewOfFarNumbers(t *testing.T) {
	for _, far := range farSynNumbers {
		for _, near := range synNumbers {
			checkStart(t, far.first, near.first, far.next, near.next)
			checkStart(t, near.first, far.first, near.next, far.next)
		}
		for _, other := range farSynNumbers {
			checkStart(t, far.first, other.first, far.next, other.next)
		}
	}
	for _, list := range [][]int{seqPlaces, farInts, noPlaces} {
		for _, n := range list {
			for _, m := range list {
				checkStart(t, n, m, exactMod(n, 1, 0), exactMod(m, 1, 0))
			}
		}
	}
}

func TestConnNew(t *testing.T) {
	stamped := impl.Options{Mss: 1400, Scale: 3, Sack: true, Stamp: true, Val: 77, Echo: 88}
	for _, c := range []struct {
		x            impl.Tuple
		iss, irs     int
		o            impl.Options
		window       int
		una, next    int
		shifted      int
		keptOfTheSyn impl.Options
	}{
		{connPeer, 7, 9, noOptions, 500, 8, 10, 500, noOptions},
		{connPeer, 7, 9, impl.Options{}, 500, 8, 10, 500, impl.Options{}},
		{connPeer, 9, 7, stamped, 500, 10, 8, 4000, stamped},
		{impl.Tuple{}, 4294967295, 4294967295, allOptions, 65535, 0, 0, 536862720, allOptions},
		{impl.Tuple{Ip: mostIp, Port: 65535, My: 65535}, 4294967295, 0, impl.Options{Scale: 14}, 65535, 0, 1, 1073725440, impl.Options{Scale: 14}},
		{impl.Tuple{Ip: 1, Port: 2, My: 3}, 0, 4294967295, impl.Options{Scale: 14}, 1, 1, 0, 16384, impl.Options{Scale: 14}},
		{connPeer, 1, 2, impl.Options{Scale: 15}, 40000, 2, 3, 40000, noOptions},
		{connPeer, 1, 2, impl.Options{Mss: 1400, Scale: 5, Val: 1}, 40000, 2, 3, 40000, noOptions},
		{connPeer, 1, 2, stamped, 65536, 2, 3, 0, stamped},
		{connPeer, 1, 2, stamped, -1, 2, 3, 0, stamped},
		{connPeer, 1, 2, impl.Options{Mss: -1, Scale: 9}, 65536, 2, 3, 0, noOptions},
	} {
		want := impl.Conn{
			Tuple: c.x, State: impl.StEst, S: impl.Sender{Una: c.una}, R: impl.Receiver{Next: c.next, Fin: -1},
			Window: c.shifted, Most: c.shifted, Opts: c.keptOfTheSyn,
		}
		checkConnNew(t, c.x, c.iss, c.irs, c.o, c.window, want)
		checkConnOk(t, want, true)
	}
}

func TestConnNewOfWindows(t *testing.T) {
	for _, scale := range connScales {
		for _, o := range []impl.Options{{Scale: scale}, {Mss: 1460, Scale: scale, Sack: true, Stamp: true, Val: 5, Echo: mostIp}} {
			factor := map[int]int{-1: 1, 0: 1, 1: 2, 7: 128, 13: 8192, 14: 16384}[scale]
			for _, window := range connWindows {
				c := impl.ConnNew(connPeer, 5, 6, o, window)
				if c.Window != window*factor || c.Most != window*factor || c.Opts != o {
					t.Errorf("a window of %d with scale %d is %d, and at most %d", window, scale, c.Window, c.Most)
				}
				checkConnNew(t, connPeer, 5, 6, o, window, newConn(connPeer, 5, 6, o, window))
				checkConnOk(t, c, true)
			}
			for _, window := range slices.Concat(noConnWindows, []int{65535 * 2, 65536 * factor}) {
				c := impl.ConnNew(connPeer, 5, 6, o, window)
				if c.Window != 0 || c.Most != 0 || c.Opts != o {
					t.Errorf("a window of %d with scale %d is %d, and at most %d", window, scale, c.Window, c.Most)
				}
				checkConnNew(t, connPeer, 5, 6, o, window, newConn(connPeer, 5, 6, o, 0))
				checkConnOk(t, c, true)
			}
		}
	}
	for scale := -1; scale <= 14; scale++ {
		for window := range 65536 {
			if c := impl.ConnNew(connPeer, 5, 6, impl.Options{Scale: scale}, window); c.Window != window<<max(scale, 0) || c.Most != c.Window {
				t.Fatalf("a window of %d with scale %d is %d, and at most %d", window, scale, c.Window, c.Most)
			}
		}
	}
}

// refusedOptions have one fault each.
func refusedOptions() []impl.Options {
	var list []impl.Options
	for _, mss := range mssFields {
		o := allOptions
		o.Mss = mss
		list = append(list, o, impl.Options{Mss: mss, Scale: 3}, impl.Options{Mss: mss, Scale: -1})
	}
	for _, scale := range scaleFields {
		o := allOptions
		o.Scale = scale
		list = append(list, o, impl.Options{Mss: 1400, Scale: scale}, impl.Options{Scale: scale})
	}
	for _, n := range stampFields {
		val, echo := allOptions, allOptions
		val.Val, echo.Echo = n, n
		list = append(list, val, echo, impl.Options{Mss: 1400, Scale: 3, Val: n}, impl.Options{Mss: 1400, Scale: 3, Echo: n}, impl.Options{Scale: -1, Val: n})
	}
	return slices.DeleteFunc(list, validOptions)
}

func TestConnNewOfRefusedOptions(t *testing.T) {
	list := refusedOptions()
	if len(list) < 100 {
		t.Error("there are", len(list), "refused options")
	}
	for _, o := range list {
		for _, window := range slices.Concat(connWindows, noConnWindows) {
			taken := numberIf(isWord(window, 16), window)
			want := impl.Conn{
				Tuple: connPeer, State: 1, S: impl.Sender{Una: 6}, R: impl.Receiver{Next: 8, Fin: -1},
				Window: taken, Most: taken, Opts: impl.Options{Scale: -1},
			}
			checkConnNew(t, connPeer, 5, 7, o, window, want)
			checkConnOk(t, impl.ConnNew(connPeer, 5, 7, o, window), true)
		}
	}
	valid := 0
	optionsOfFields(func(o impl.Options) {
		want := newConn(connPeer, 5, 7, o, 300)
		valid += numberIf(want.Opts == o, 1)
		checkConnNew(t, connPeer, 5, 7, o, 300, want)
		checkConnOk(t, want, true)
	})
	// Of each of 4 sizes and 4 scales, with Sack and without it: 16 stamps, or none.
	if valid != 4*4*2*(16+1) {
		t.Error(valid, "options are kept")
	}
}

func refusedTuples() []impl.Tuple {
	var list []impl.Tuple
	for _, n := range tupleNumbers {
		list = append(list, tupleWith(n, 40000, 80), tupleWith(fromIp, n, 80), tupleWith(fromIp, 40000, n))
	}
	return slices.DeleteFunc(list, validTuple)
}

// Such a tuple is kept, but the connection is not valid.
func TestConnNewOfRefusedTuples(t *testing.T) {
	list := refusedTuples()
	if len(list) < 50 {
		t.Error("there are", len(list), "refused tuples")
	}
	for _, x := range list {
		want := impl.Conn{Tuple: x, State: 1, S: impl.Sender{Una: 0}, R: impl.Receiver{Next: 8, Fin: -1}, Window: 600, Most: 600, Opts: impl.Options{Mss: 9, Scale: 1}}
		checkConnNew(t, x, last, 7, impl.Options{Mss: 9, Scale: 1}, 300, want)
		checkConnOk(t, want, false)
		want.Opts, want.Window, want.Most = noOptions, 0, 0
		checkConnNew(t, x, last, 7, impl.Options{Mss: -9, Scale: 1}, -300, want)
		checkConnOk(t, want, false)
	}
}

func TestConnOkOfTuples(t *testing.T) {
	for _, c := range connsInStates() {
		checkConnOk(t, c, true)
		for _, x := range refusedTuples() {
			c.Tuple = x
			checkConnOk(t, c, false)
		}
		for _, x := range []impl.Tuple{{}, tupleWith(mostIp, 0, 0), tupleWith(0, 65535, 0), tupleWith(0, 0, 65535), tupleWith(mostIp, 65535, 65535)} {
			c.Tuple = x
			checkConnOk(t, c, true)
		}
	}
}

func TestConnOkOfOptions(t *testing.T) {
	for _, c := range connsInStates() {
		for _, o := range refusedOptions() {
			c.Opts = o
			checkConnOk(t, c, false)
		}
		for seed := range 200 {
			c.Opts = someOptions(seed)
			checkConnOk(t, c, true)
		}
		for _, o := range []impl.Options{{}, noOptions, allOptions, {Mss: 65535, Scale: 14, Stamp: true, Val: mostIp, Echo: mostIp}} {
			c.Opts = o
			checkConnOk(t, c, true)
		}
	}
}

// checkConnOkWith puts parts into connections of each state. A part that is refused is
// the only fault where the state may have its ends.
func checkConnOkWith[Part any](t *testing.T, put func(c *impl.Conn, part Part), refused []Part, valid func(ends string) []Part) {
	t.Helper()
	for state := 1; state <= 8; state++ {
		alone := 0
		for _, ends := range stateEnds[state] {
			for _, part := range refused {
				c := connWith(state, ends)
				put(&c, part)
				checkConnOk(t, c, false)
				alone += numberIf(slices.Contains(stateEnds[state], endsOf(c.S, c.R)), 1)
			}
		}
		if alone < 20 || state == 8 && alone < 5*len(refused) {
			t.Errorf("in state %d, there are %d connections with one fault", state, alone)
		}
		for _, ends := range allEnds {
			for _, part := range valid(ends) {
				c := connWith(state, ends)
				put(&c, part)
				checkConnOk(t, c, slices.Contains(stateEnds[state], ends))
			}
		}
	}
}

func TestConnOkOfSenders(t *testing.T) {
	checkConnOkWith(t, func(c *impl.Conn, s impl.Sender) { c.S = s }, refusedSenders(), sendersWithEnds)
}

func TestConnOkOfReceivers(t *testing.T) {
	checkConnOkWith(t, func(c *impl.Conn, r impl.Receiver) { c.R = r }, refusedReceivers(), receiversWithEnds)
}

func TestConnOkOfStates(t *testing.T) {
	for _, ends := range allEnds {
		for _, state := range []int{0, 9, -1, 10, -2, -7, -8, 15, 16, 255, 256, 257, 264, all + 1, all + 8, 1<<62 + 1, mostInt - 1, mostInt, leastInt, leastInt + 1, leastInt + 8} {
			checkConnOk(t, connWith(state, ends), false)
		}
	}
	for state := -20; state < 40; state++ {
		valid := 0
		for _, ends := range allEnds {
			c := connWith(state, ends)
			checkConnOk(t, c, validConn(c))
			valid += numberIf(impl.ConnOk(c), 1)
		}
		want := numberIf(state >= 1 && state <= 7, 1) + numberIf(state == 8, 6)
		if valid != want {
			t.Errorf("state %d has %d ends, want %d", state, valid, want)
		}
	}
}

// saidOf reports whether none of the three sentences forbids these ends in a state.
func saidOf(state int, ends string) bool {
	for _, x := range endSentences {
		is := strings.Contains(ends, x.flag)
		if is && slices.Contains(x.unset, state) || !is && slices.Contains(x.set, state) {
			return false
		}
	}
	return true
}

func TestConnOkOfEnds(t *testing.T) {
	for state := 1; state <= 8; state++ {
		for _, ends := range allEnds {
			want := slices.Contains(stateEnds[state], ends)
			if saidOf(state, ends) != want {
				t.Errorf("the table and the sentences differ in state %d with %q", state, ends)
			}
			for _, s := range sendersWithEnds(ends) {
				for _, r := range []impl.Receiver{open(2000, ""), open(2000, "data", piece(3, "x")), closing(last, "data", 9), closing(0, "", 32)} {
					if strings.HasSuffix(ends, "r") {
						r = closed(r.Next, r.Data)
					}
					c := connWith(state, ends)
					c.S, c.R = s, r
					checkConnOk(t, c, want)
				}
			}
		}
	}
	// The sender's FIN may be given, but not sent: this is no other state.
	for _, state := range []int{2, 5, 6, 8} {
		for _, s := range []impl.Sender{ending(1, "", 0), ending(1, "ab", 0), ending(1, "ab", 2), ended(1, "ab"), ended(1, "")} {
			c := connIn(state)
			c.S = s
			checkConnOk(t, c, true)
		}
	}
}

func TestConnOkOfWindows(t *testing.T) {
	mosts := []int{leastInt, leastInt + 1, -mostWindow, -65535, -2, -1, 0, 1, 2, 65535, 65536, 1 << 29, mostWindow - 1, mostWindow, mostWindow + 1, mostWindow + 2, 1 << 30, 1<<30 + 1, 1 << 31, all, all + 1, 1 << 62, mostInt - 1, mostInt}
	for _, c := range connsInStates() {
		for _, most := range mosts {
			for _, window := range slices.Concat(mosts, []int{most / 2, most - 1, most, most + 1}) {
				c.Window, c.Most = window, most
				checkConnOk(t, c, window >= 0 && window <= most && most <= 1073725440)
			}
		}
		for most := range 20 {
			for window := -2; window < 22; window++ {
				c.Window, c.Most = window, most
				checkConnOk(t, c, window >= 0 && window <= most)
			}
		}
	}
}

func TestConnOkOfTimes(t *testing.T) {
	for _, c := range connsInStates() {
		for _, n := range slices.Concat(farInts, []int{-3, -4, -5, 3, 4, 9, 10, 256, 257, 259, all + 1, all + 3, leastInt + 3}) {
			timed, tried := c, c
			timed.Timer, tried.Tries = n, n
			checkConnOk(t, timed, n >= 0 && n <= 3 || n == 4 && c.State == impl.StTime)
			checkConnOk(t, tried, n >= 0 && n <= 3)
		}
		for timer := -2; timer < 7; timer++ {
			for tries := -2; tries < 7; tries++ {
				c.Timer, c.Tries = timer, tries
				longest := 3
				if c.State == 7 {
					longest = 4
				}
				checkConnOk(t, c, timer >= 0 && timer <= longest && tries >= 0 && tries <= 3)
			}
		}
	}
}

// connChanges change one thing each.
var connChanges = []struct {
	name   string
	change func(c *impl.Conn)
}{
	{"Tuple.Ip", func(c *impl.Conn) { c.Tuple.Ip++ }}, {"Tuple.Port", func(c *impl.Conn) { c.Tuple.Port++ }}, {"Tuple.My", func(c *impl.Conn) { c.Tuple.My++ }},
	{"another Tuple", func(c *impl.Conn) { c.Tuple.Port, c.Tuple.My = c.Tuple.My, c.Tuple.Port }},
	{"no Tuple", func(c *impl.Conn) { c.Tuple = impl.Tuple{} }},
	{"State", func(c *impl.Conn) { c.State++ }}, {"State by 2^32", func(c *impl.Conn) { c.State += all }}, {"no State", func(c *impl.Conn) { c.State = 0 }},
	{"S.Una", func(c *impl.Conn) { c.S.Una++ }}, {"S.Una by 2^32", func(c *impl.Conn) { c.S.Una += all }},
	{"S.Data", func(c *impl.Conn) { c.S.Data = "abcdeF" }}, {"shorter S.Data", func(c *impl.Conn) { c.S.Data = "abcde" }}, {"longer S.Data", func(c *impl.Conn) { c.S.Data += "\x00" }},
	{"S.Sent", func(c *impl.Conn) { c.S.Sent++ }}, {"S.Fin", func(c *impl.Conn) { c.S.Fin = !c.S.Fin }}, {"S.FinSent", func(c *impl.Conn) { c.S.FinSent = !c.S.FinSent }}, {"S.Done", func(c *impl.Conn) { c.S.Done = !c.S.Done }},
	{"no S", func(c *impl.Conn) { c.S = impl.Sender{} }},
	{"R.Next", func(c *impl.Conn) { c.R.Next++ }}, {"R.Next by 2^32", func(c *impl.Conn) { c.R.Next += all }},
	{"R.Data", func(c *impl.Conn) { c.R.Data = "datA" }}, {"shorter R.Data", func(c *impl.Conn) { c.R.Data = "dat" }}, {"longer R.Data", func(c *impl.Conn) { c.R.Data += "\x00" }},
	{"R.Fin", func(c *impl.Conn) { c.R.Fin++ }}, {"R.Done", func(c *impl.Conn) { c.R.Done = !c.R.Done }},
	{"Off of a piece", func(c *impl.Conn) { c.R.Held[0].Off++ }}, {"Off of the last piece", func(c *impl.Conn) { c.R.Held[1].Off++ }},
	{"Text of a piece", func(c *impl.Conn) { c.R.Held[0].Text = "gH" }}, {"Text of the last piece", func(c *impl.Conn) { c.R.Held[1].Text = "" }},
	{"exchanged pieces", func(c *impl.Conn) { slices.Reverse(c.R.Held) }},
	{"no pieces", func(c *impl.Conn) { c.R.Held = nil }}, {"empty pieces", func(c *impl.Conn) { c.R.Held = []impl.Piece{} }},
	{"fewer pieces", func(c *impl.Conn) { c.R.Held = c.R.Held[:1] }}, {"later pieces", func(c *impl.Conn) { c.R.Held = c.R.Held[1:] }},
	{"more pieces", func(c *impl.Conn) { c.R.Held = append(c.R.Held, piece(9, "z")) }}, {"one more zero piece", func(c *impl.Conn) { c.R.Held = append(c.R.Held, impl.Piece{}) }},
	{"no R", func(c *impl.Conn) { c.R = impl.Receiver{} }},
	{"Window", func(c *impl.Conn) { c.Window++ }}, {"Most", func(c *impl.Conn) { c.Most++ }}, {"exchanged windows", func(c *impl.Conn) { c.Window, c.Most = c.Most, c.Window }},
	{"Opts.Mss", func(c *impl.Conn) { c.Opts.Mss++ }}, {"Opts.Scale", func(c *impl.Conn) { c.Opts.Scale++ }},
	{"Opts.Sack", func(c *impl.Conn) { c.Opts.Sack = !c.Opts.Sack }}, {"Opts.Stamp", func(c *impl.Conn) { c.Opts.Stamp = !c.Opts.Stamp }},
	{"Opts.Val", func(c *impl.Conn) { c.Opts.Val++ }}, {"Opts.Echo", func(c *impl.Conn) { c.Opts.Echo++ }}, {"no Opts", func(c *impl.Conn) { c.Opts = impl.Options{} }},
	{"Timer", func(c *impl.Conn) { c.Timer++ }}, {"Tries", func(c *impl.Conn) { c.Tries++ }}, {"exchanged times", func(c *impl.Conn) { c.Timer, c.Tries = c.Tries, c.Timer }},
}

func TestSameConn(t *testing.T) {
	base := connIn(1)
	var changed []impl.Conn
	for _, x := range connChanges {
		c := copyConn(base)
		x.change(&c)
		if impl.SameConn(base, c) || impl.SameConn(c, base) {
			t.Errorf("with %s changed, SameConn is true", x.name)
		}
		checkSameConns(t, base, c, false)
		changed = append(changed, c)
		// The same change makes them equal again.
		other := copyConn(base)
		x.change(&other)
		checkSameConns(t, c, other, true)
	}
	for _, a := range changed {
		for _, b := range changed {
			checkSameConns(t, a, b, equalConns(a, b))
		}
	}
	list := slices.Concat(connsInStates(), []impl.Conn{{}, {State: 1}, {R: impl.Receiver{Fin: -1}}})
	for i, a := range list {
		for j, b := range list {
			checkSameConns(t, a, copyConn(b), i == j)
		}
	}
}

func TestSameConnOfEmptyPieces(t *testing.T) {
	for _, base := range []impl.Conn{{}, connIn(1), connIn(4), connIn(8)} {
		none, empty, spare, zero := base, base, base, base
		none.R.Held, empty.R.Held, spare.R.Held, zero.R.Held = nil, []impl.Piece{}, make([]impl.Piece, 0, 5), make([]impl.Piece, 1)
		for _, a := range []impl.Conn{none, empty, spare} {
			for _, b := range []impl.Conn{none, empty, spare} {
				checkSameConns(t, a, b, true)
			}
			checkSameConns(t, a, zero, false)
		}
	}
	// Neither what is behind the pieces nor where they are counts.
	c := connIn(1)
	given, kept := guardedBy(c.R.Held, pieceGuard)
	other := c
	other.R.Held = given
	checkSameConns(t, c, other, true)
	if !kept() {
		t.Error("SameConn changed what is beside the pieces")
	}
}

// leavesOf returns all numbers, texts and flags of a connection by their names.
func leavesOf(c *impl.Conn) map[string]reflect.Value {
	leaves := map[string]reflect.Value{}
	var walk func(name string, v reflect.Value)
	walk = func(name string, v reflect.Value) {
		switch v.Kind() {
		case reflect.Struct:
			for i := range v.NumField() {
				walk(name+"."+v.Type().Field(i).Name, v.Field(i))
			}
		case reflect.Slice:
			for i := range v.Len() {
				walk(fmt.Sprint(name, i), v.Index(i))
			}
		default:
			leaves[name] = v
		}
	}
	walk("", reflect.ValueOf(c).Elem())
	return leaves
}

// numbersOf returns the names of the numbers among the leaves.
func numbersOf(c impl.Conn) []string {
	var names []string
	for name, v := range leavesOf(&c) {
		if v.Kind() == reflect.Int {
			names = append(names, name)
		}
	}
	slices.Sort(names)
	return names
}

// withNumber returns c with a number that is set by its name.
func withNumber(c impl.Conn, name string, n int) impl.Conn {
	c = copyConn(c)
	leavesOf(&c)[name].SetInt(int64(n))
	return c
}

// No field may be left out, whichever fields there are.
func TestSameConnOfEachField(t *testing.T) {
	for _, base := range connsInStates() {
		names := leavesOf(&base)
		if want := 24 + 2*len(base.R.Held); len(names) != want {
			t.Errorf("a connection has %d numbers, texts and flags, want %d", len(names), want)
		}
		for name := range names {
			c := copyConn(base)
			switch v := leavesOf(&c)[name]; v.Kind() {
			case reflect.Int:
				v.SetInt(v.Int() ^ 1<<40)
			case reflect.String:
				v.SetString(v.String() + "x")
			case reflect.Bool:
				v.SetBool(!v.Bool())
			default:
				t.Errorf("%s is of another kind", name)
			}
			checkSameConns(t, base, c, false)
		}
	}
}

func TestMssFor(t *testing.T) {
	for _, x := range []struct{ mss, want int }{
		{leastInt, 1}, {leastInt + 1, 1}, {-65536, 1}, {-1460, 1}, {-536, 1}, {-2, 1}, {-1, 1}, {0, 536}, {1, 1}, {2, 2}, {3, 3}, {63, 63}, {64, 64},
		{535, 535}, {536, 536}, {537, 537}, {1000, 1000}, {1459, 1459}, {1460, 1460}, {1461, 1460}, {65535, 1460}, {65536, 1460}, {65537, 1460},
		{all, 1460}, {all + 1, 1460}, {1 << 62, 1460}, {mostInt - 1, 1460}, {mostInt, 1460},
		{impl.OwnMss - 1, impl.OwnMss - 1}, {impl.OwnMss, impl.OwnMss}, {impl.OwnMss + 1, impl.OwnMss},
	} {
		for _, c := range append(connsInStates(), impl.Conn{}, impl.Conn{State: -1, Window: 7, Most: 5}) {
			c.Opts.Mss = x.mss
			checkMssFor(t, c, x.want)
		}
		checkMssFor(t, impl.Conn{Opts: impl.Options{Mss: x.mss, Scale: 99, Val: 9}}, x.want)
	}
	for mss := -3; mss < 70000; mss++ {
		checkMssFor(t, impl.Conn{Opts: impl.Options{Mss: mss}}, mssIn(mss))
	}
}

func TestAckOf(t *testing.T) {
	base := connIn(1)
	base.Tuple = impl.Tuple{Ip: 3, Port: 4, My: 5}
	ack := impl.Segment{From: 5, To: 4, Seq: 1004, Ack: 2000, Flags: impl.FlAck, Window: 28, Opts: impl.NoOptions()}
	checkAckOf(t, base, ack)
	for _, x := range []struct {
		s   impl.Sender
		seq int
	}{
		{sending(1000, "", 0), 1000}, {sending(1000, "abc", 0), 1000}, {sending(1000, "abc", 1), 1001}, {sending(1000, "abc", 3), 1003},
		{ending(1000, "abc", 0), 1000}, {ending(1000, "abc", 3), 1003}, {ended(1000, "abc"), 1004}, {ended(1000, ""), 1001}, {finished(1000), 1000},
		{sending(last, "", 0), last}, {sending(last, "abc", 1), 0}, {sending(last, "abc", 3), 2}, {ended(last, ""), 0}, {ended(last, "abc"), 3}, {finished(last), last},
		{sending(last-2, "abc", 3), 0}, {ended(last-3, "abc"), 0}, {ended(last-4, "abc"), last}, {sending(0, someBytes(48, 1), 48), 48}, {ended(0, someBytes(48, 1)), 49},
	} {
		c, want := base, ack
		c.S, want.Seq = x.s, x.seq
		checkAckOf(t, c, want)
	}
	for _, next := range receiverPlaces {
		for _, x := range []struct {
			r      impl.Receiver
			window int
		}{
			{open(next, ""), 32}, {open(next, "a"), 31}, {open(next, manyBytes[:16]), 16}, {open(next, manyBytes[:31]), 1}, {open(next, manyBytes[:32]), 0},
			{open(next, "", piece(1, "abc")), 32}, {open(next, "ab", piece(5, "abc")), 30}, {closing(next, "", 1), 32}, {closing(next, "ab", 7), 30},
			{closed(next, ""), 0}, {closed(next, "abc"), 0}, {closed(next, manyBytes[:32]), 0},
		} {
			c, want := base, ack
			c.R, want.Ack, want.Window = x.r, next, x.window
			checkAckOf(t, c, want)
		}
	}
	// Options, windows and times of the connection are in no acknowledgment.
	other := base
	other.State, other.Opts, other.Window, other.Most, other.Timer, other.Tries = 8, impl.Options{Mss: 9}, 3, 7, 0, 3
	checkAckOf(t, other, ack)
}

// The numbers of an acknowledgment go on behind the last one.
func TestAckOfNumbersPastTheEnd(t *testing.T) {
	for k := range 60 {
		start := exactMod(last, k, 50)
		c := impl.ConnNew(connPeer, start, start, noOptions, 1000)
		c.S, _ = impl.Queued(c.S, someBytes(48, k))
		c.S = impl.SentOff(c.S, chunkOf(impl.NextOf(c.S), c.S.Data[:k%49], false))
		c.R = impl.Arrived(c.R, c.R.Next, someBytes(k%33, k), k%2 > 0)
		fin := numberIf(k%2 > 0, 1)
		want := impl.Segment{
			From: 80, To: 40000, Seq: exactMod(start, 1+k%49, 0), Ack: exactMod(start, 1+k%33+fin, 0),
			Flags: 16, Window: (1 - fin) * (32 - k%33), Opts: noOptions,
		}
		checkAckOf(t, c, want)
	}
}

// Acknowledgments of valid connections are valid segments.
func TestAckOfIsASegment(t *testing.T) {
	for _, ends := range allEnds {
		for _, s := range sendersWithEnds(ends) {
			for _, r := range receiversWithEnds(ends)[:4] {
				c := connWith(8, ends)
				c.S, c.R = s, r
				checkConnOk(t, c, true)
				checkAckOf(t, c, ackFrom(c))
				g := impl.AckOf(c)
				if read, ok := impl.ReadSegment(impl.SegmentText(g, toIp, c.Tuple.Ip), toIp, c.Tuple.Ip); !ok || read != g {
					t.Errorf("AckOf(%s) = %s, which is read as %s", connShown(c), segmentShown(g), segmentShown(read))
				}
			}
		}
	}
}

// The chapter names no connection without an acknowledgment.
func TestAckOfRefusedConns(t *testing.T) {
	base, ack := connIn(1), impl.AckOf(connIn(1))
	for _, x := range []struct {
		change func(c *impl.Conn)
		same   func(g *impl.Segment)
	}{
		{func(c *impl.Conn) { c.State = 0 }, func(g *impl.Segment) {}},
		{func(c *impl.Conn) { c.State = 9 }, func(g *impl.Segment) {}},
		{func(c *impl.Conn) { c.State = impl.StTime }, func(g *impl.Segment) {}},
		{func(c *impl.Conn) { c.Window = 801 }, func(g *impl.Segment) {}},
		{func(c *impl.Conn) { c.Most = mostWindow + 1 }, func(g *impl.Segment) {}},
		{func(c *impl.Conn) { c.Timer = 4 }, func(g *impl.Segment) {}},
		{func(c *impl.Conn) { c.Tries = -1 }, func(g *impl.Segment) {}},
		{func(c *impl.Conn) { c.Opts.Scale = 15 }, func(g *impl.Segment) {}},
		{func(c *impl.Conn) { c.Tuple.Ip = -1 }, func(g *impl.Segment) {}},
		{func(c *impl.Conn) { c.Tuple.My = 65536 }, func(g *impl.Segment) { g.From = 65536 }},
		{func(c *impl.Conn) { c.Tuple.Port = -1 }, func(g *impl.Segment) { g.To = -1 }},
		{func(c *impl.Conn) { c.S.Una = -1 }, func(g *impl.Segment) { g.Seq = 3 }},
		{func(c *impl.Conn) { c.S.Sent = 7 }, func(g *impl.Segment) { g.Seq = 1007 }},
		{func(c *impl.Conn) { c.S.Sent = -1 }, func(g *impl.Segment) { g.Seq = 999 }},
		{func(c *impl.Conn) { c.S.FinSent = true }, func(g *impl.Segment) { g.Seq = 1005 }},
		{func(c *impl.Conn) { c.R.Next = -1 }, func(g *impl.Segment) { g.Ack = -1 }},
		{func(c *impl.Conn) { c.R.Next = all }, func(g *impl.Segment) { g.Ack = all }},
		{func(c *impl.Conn) { c.R.Data = manyBytes[:33] }, func(g *impl.Segment) { g.Window = 0 }},
		{func(c *impl.Conn) { c.R.Fin = 0 }, func(g *impl.Segment) {}},
		{func(c *impl.Conn) { c.R.Done = true }, func(g *impl.Segment) { g.Window = 0 }},
	} {
		c, want := copyConn(base), ack
		x.change(&c)
		x.same(&want)
		checkConnOk(t, c, false)
		checkAckOf(t, c, want)
	}
	for _, s := range refusedSenders() {
		c := connIn(8)
		c.S = s
		checkAckOf(t, c, ackFrom(c))
	}
	for _, r := range refusedReceivers() {
		c := connIn(8)
		c.R = r
		checkAckOf(t, c, ackFrom(c))
	}
}

func TestStateWord(t *testing.T) {
	for k, want := range map[int]string{
		1: "est", 2: "fin1", 3: "fin2", 4: "wait", 5: "closing", 6: "last", 7: "time", 8: "closed",
		0: "", 9: "", 10: "", -1: "", -2: "", -8: "", 16: "", 256: "", 257: "", all: "", all + 1: "", all + 8: "", 1<<62 + 1: "", mostInt: "", mostInt - 1: "", leastInt: "", leastInt + 1: "", leastInt + 8: "",
	} {
		checkStateWord(t, k, want)
	}
	for k := -300; k < 300; k++ {
		checkStateWord(t, k, stateWordOf(k))
	}
	for _, k := range farInts {
		checkStateWord(t, k, stateWordOf(k))
	}
}

func TestConnOfConfusedNumbers(t *testing.T) {
	// the number of the SYN against the one behind it, and the own one against the peer's
	c := impl.ConnNew(connPeer, 100, 200, impl.Options{Scale: 2}, 7)
	checkAckOf(t, c, impl.Segment{From: 80, To: 40000, Seq: 101, Ack: 201, Flags: 16, Window: 32, Opts: noOptions})
	checkSameConns(t, c, impl.ConnNew(connPeer, 101, 200, impl.Options{Scale: 2}, 7), false)
	checkSameConns(t, c, impl.ConnNew(connPeer, 200, 100, impl.Options{Scale: 2}, 7), false)
	checkSameConns(t, c, impl.ConnNew(connPeer, 100+all, 200-all, impl.Options{Scale: 2}, 7), true)
	// the peer's window, scaled or not, against the own one
	if c.Window != 28 || c.Most != 28 || impl.WindowOf(c.R) != 32 {
		t.Error("the windows are", c.Window, c.Most, impl.WindowOf(c.R))
	}
	c.Window = 29
	checkConnOk(t, c, false)
	c.Most, c.Window = 29, 28
	checkConnOk(t, c, true)
	c.Window = 0
	checkConnOk(t, c, true)
	checkAckOf(t, c, impl.Segment{From: 80, To: 40000, Seq: 101, Ack: 201, Flags: 16, Window: 32, Opts: noOptions})
	// a scale of -1 against 0, and an Mss of 0 against 1
	unscaled, once := impl.ConnNew(connPeer, 100, 200, impl.Options{Scale: -1}, 7), impl.ConnNew(connPeer, 100, 200, impl.Options{Scale: 0}, 7)
	if unscaled.Window != 7 || once.Window != 7 || unscaled.Opts.Scale != -1 || once.Opts.Scale != 0 {
		t.Error("without a scale the window is", unscaled.Window, "and with 0 it is", once.Window)
	}
	checkSameConns(t, unscaled, once, false)
	checkMssFor(t, unscaled, 536)
	unscaled.Opts.Mss = 1
	checkMssFor(t, unscaled, 1)
	// the timer in StTime against the others
	for _, c := range connsInStates() {
		c.Timer = impl.Quiet
		checkConnOk(t, c, c.State == impl.StTime)
	}
	// a FIN that is given against one that is sent, and the own end against the peer's
	for state := 1; state <= 8; state++ {
		for _, x := range []struct {
			s    impl.Sender
			r    impl.Receiver
			fits []int
		}{
			{sending(9, "ab", 2), open(9, ""), []int{1, 8}},
			{ending(9, "ab", 2), open(9, ""), []int{2, 8}},
			{ended(9, "ab"), open(9, ""), []int{2, 8}},
			{finished(9), open(9, ""), []int{3, 8}},
			{sending(9, "ab", 2), closed(9, ""), []int{4, 8}},
			{ending(9, "ab", 2), closed(9, ""), []int{5, 6, 8}},
			{ended(9, "ab"), closed(9, ""), []int{5, 6, 8}},
			{finished(9), closed(9, ""), []int{7, 8}},
			{sending(9, "", 0), closing(9, "", 1), []int{1, 8}},
		} {
			c := impl.Conn{Tuple: connPeer, State: state, S: x.s, R: x.r}
			checkConnOk(t, c, slices.Contains(x.fits, state))
		}
	}
}

// A state whose flags differ in a single place is another one.
func TestConnOkOfOneFlag(t *testing.T) {
	for _, c := range connsInStates() {
		ends := endsOf(c.S, c.R)
		for _, other := range allEnds {
			different := 0
			for _, flag := range []string{"f", "d", "r"} {
				different += numberIf(strings.Contains(ends, flag) != strings.Contains(other, flag), 1)
			}
			if different == 1 {
				checkConnOk(t, connWith(c.State, other), c.State == impl.StClosed)
			}
		}
	}
}

// Every function returns, and returns the same again, whatever it is given.
func TestConnIsTotal(t *testing.T) {
	defer func() {
		if r := recover(); r != nil {
			t.Fatalf("panic: %v", r)
		}
	}()
	few := []int{leastInt, leastInt + 1, -all, -1, 0, 1, 7, 14, 65535, last, all, 1 << 62, mostInt - 1, mostInt}
	for _, base := range append(connsInStates(), impl.Conn{}) {
		names := numbersOf(base)
		for i, name := range names {
			for _, n := range farInts {
				checkConnCalls(t, withNumber(base, name, n))
			}
			if base.State%3 != 1 {
				continue
			}
			for _, other := range names[:i] {
				for _, n := range few {
					for _, m := range few {
						checkConnCalls(t, withNumber(withNumber(base, name, n), other, m))
					}
				}
			}
		}
	}
	for _, n := range farInts {
		c := connIn(1)
		for _, name := range numbersOf(c) {
			c = withNumber(c, name, n)
		}
		checkConnCalls(t, c)
		for _, m := range farInts {
			o := impl.Options{Mss: n, Scale: m, Stamp: true, Val: n, Echo: m}
			x := tupleWith(n, m, n)
			checkConnNew(t, x, n, m, o, m, newConn(x, n, m, o, m))
			checkConnNew(t, x, m, n, noOptions, m, newConn(x, m, n, noOptions, m))
			checkConnNew(t, connPeer, n, m, impl.Options{Scale: m}, n, newConn(connPeer, n, m, impl.Options{Scale: m}, n))
		}
	}
	for _, size := range []int{0, 1, 3, 4, 32, 33, 48, 49, 1000} {
		c := connIn(1)
		c.S.Data, c.R.Data, c.R.Held = someBytes(size, 1), someBytes(size, 2), make([]impl.Piece, size)
		checkConnCalls(t, c)
		c.S.Sent = size
		checkConnCalls(t, c)
	}
}

// someConn draws connections, some of them valid.
func someConn(seed int) impl.Conn {
	draw := drawnNumber(seed + 1<<23)
	c := impl.Conn{
		Tuple: tupleWith(someInt(3*seed)&mostIp, someInt(3*seed+1)&65535, someInt(3*seed+2)&65535), State: 1 + draw%8,
		S: someSender(seed), R: someReceiver(seed), Opts: someOptions(seed), Timer: draw >> 8 % 4, Tries: draw >> 12 % 4,
	}
	c.Most = draw >> 16 % (mostWindow + 1)
	c.Window = c.Most * (draw >> 48 % 9) / 8
	if draw>>54%4 == 0 {
		c.S = finished(c.S.Una)
	}
	// No state may have the ends of some senders that are not valid.
	for range 8 * (draw >> 52 % 8) {
		if slices.Contains(stateEnds[c.State], endsOf(c.S, c.R)) {
			break
		}
		c.State = 1 + c.State%8
	}
	switch draw >> 56 % 16 {
	case 0:
		c.State = draw>>20%12 - 1
	case 1:
		c.Window = c.Most + 1
	case 2:
		c.Timer = draw>>20%8 - 2
	case 3:
		c.Tries = draw>>20%8 - 2
	case 4:
		c.Tuple.Port += 65536
	case 5:
		c.Opts.Scale += 8
	}
	return c
}

func TestConnOfDrawnFields(t *testing.T) {
	valid, states := 0, map[int]int{}
	for seed := range 20000 {
		c, other := someConn(seed), someConn(seed+1)
		checkConnCalls(t, c)
		checkSameConns(t, c, other, equalConns(c, other))
		other = copyConn(c)
		connChanges[seed%20].change(&other)
		checkSameConns(t, c, other, equalConns(c, other))
		if validConn(c) {
			valid++
			states[c.State]++
		}
	}
	if valid < 4000 || valid > 15000 {
		t.Error(valid, "valid connections")
	}
	for state := 1; state <= 8; state++ {
		if states[state] < 100 {
			t.Error(states[state], "valid connections in state", state)
		}
	}
}

// The functions that look at a connection change nothing, nor what is beside its pieces.
func TestConnIsLookedAt(t *testing.T) {
	lists := [][]impl.Piece{nil, {}, {piece(2, "gh")}, {piece(2, "gh"), piece(6, "k")}, {piece(2, "gh"), piece(5, "x"), piece(9, "y")}, make([]impl.Piece, 5)}
	for _, base := range connsInStates() {
		for _, list := range lists {
			held, kept := guardedBy(list, pieceGuard)
			c := base
			c.R.Held = held
			before := copyConn(c)
			g := impl.AckOf(c)
			word := impl.StateWord(c.State)
			impl.ConnOk(c)
			impl.MssFor(c)
			impl.SameConn(c, c)
			impl.SameConn(c, before)
			impl.SameConn(before, c)
			if !kept() || !equalConns(c, before) {
				t.Errorf("a function changed %s to %s", connShown(before), connShown(c))
			}
			// What is written into an answer is not seen in its argument, nor in
			// the next answer, and the other way round.
			want := g
			g.From, g.To, g.Seq, g.Ack, g.Flags, g.Window, g.Body, g.Opts = -7, -7, -7, -7, -7, -7, "body", allOptions
			if again := impl.AckOf(c); again != want || !kept() || !equalConns(c, before) {
				t.Errorf("AckOf(%s) = %s, and again %s", connShown(before), segmentShown(want), segmentShown(again))
			}
			overwrite(held, piece(-9, "over"))
			c.S, c.R, c.Tuple = impl.Sender{}, impl.Receiver{}, impl.Tuple{}
			if again := impl.AckOf(before); again != want || impl.StateWord(before.State) != word {
				t.Errorf("AckOf(%s) = %s, and after a change of the argument %s", connShown(before), segmentShown(want), segmentShown(again))
			}
		}
	}
}

func TestNewConnsAreApart(t *testing.T) {
	for seed := range 500 {
		x, o := someArgs(seed).tuple, someOptions(seed)
		first, second := impl.ConnNew(x, seed, 2*seed, o, seed), impl.ConnNew(x, seed, 2*seed, o, seed)
		want := newConn(x, seed, 2*seed, o, seed)
		keptX, keptO := x, o
		for _, c := range []*impl.Conn{&first, &second} {
			if !equalConns(*c, want) {
				t.Errorf("ConnNew = %s, want %s", connShown(*c), connShown(want))
			}
			c.R.Held = append(c.R.Held, piece(seed, "new"))
			overwrite(c.R.Held, piece(-1, "over"))
			for name, v := range leavesOf(c) {
				switch v.Kind() {
				case reflect.Int:
					v.SetInt(-7)
				case reflect.String:
					v.SetString(name)
				case reflect.Bool:
					v.SetBool(true)
				}
			}
		}
		if x != keptX || o != keptO {
			t.Errorf("ConnNew's result shares memory with %v or %+v", keptX, keptO)
		}
		third := impl.ConnNew(x, seed, 2*seed, o, seed)
		x, o = impl.Tuple{Ip: -7}, impl.Options{Mss: -7}
		if !equalConns(third, want) {
			t.Errorf("ConnNew = %s after changes, want %s", connShown(third), connShown(want))
		}
	}
}

// No call depends on other calls, before it or at the same time.
func TestConnKeepsNothing(t *testing.T) {
	shared := connIn(1)
	checkAtOnce(t, func(worker int, faults map[string]int) {
		for n := range 1500 {
			seed := n + 1500*worker
			drawn := someConn(seed)
			count := func(name string, right bool) {
				if !right {
					faults[name]++
				}
			}
			for _, c := range []impl.Conn{drawn, shared} {
				count("ConnOk", impl.ConnOk(c) == validConn(c))
				count("SameConn", impl.SameConn(c, copyConn(c)) && impl.SameConn(c, shared) == equalConns(c, shared))
				count("MssFor", impl.MssFor(c) == mssIn(c.Opts.Mss))
				count("AckOf", impl.AckOf(c) == ackFrom(c))
				count("StateWord", impl.StateWord(c.State) == stateWordOf(c.State))
				made := impl.ConnNew(c.Tuple, seed, -seed, c.Opts, seed&65535)
				count("ConnNew", equalConns(made, newConn(c.Tuple, seed, -seed, c.Opts, seed&65535)))
			}
		}
	})
}
