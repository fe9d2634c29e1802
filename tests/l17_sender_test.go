package tests

import (
	"fmt"
	"math"
	"slices"
	"strings"
	"testing"

	"loop.example/g00504/impl"
)

const (
	leastInt = math.MinInt
	mostInt  = math.MaxInt

	// finItem stands for the FIN among the bytes that a sender has.
	finItem = 256
)

// senderPlaces are numbers at which a sender may be, many of them so near to the end
// of the number space that its bytes or its FIN pass it.
var senderPlaces = []int{0, 1, half - 1, half, half + 1, last - 48, last - 47, last - 3, last - 2, last - 1, last, 123456789}

// senderTexts are what a sender may have, of few and of many bytes.
var senderTexts = []string{"", "a", "ab", "abc", "a\x00b\xffc", someBytes(24, 5), someBytes(47, 6), someBytes(48, 7)}

// noPlaces are numbers that are no Una, with those that have the lowest bytes of one.
var noPlaces = []int{-1, -2, -half, -last, -all, -all + 1000, all, all + 1, all + 1000, 2 * all, 1 << 62, leastInt, leastInt + 1000, mostInt - 1, mostInt}

// senderWindows are windows around all that a sender may have sent, and far ones.
var senderWindows = []int{
	leastInt, leastInt + 1, leastInt + 48, leastInt + 49, -all, -49, -48, -2, -1, 0, 1, 2, 3, 4, 5, 6, 23, 24, 25, 26,
	46, 47, 48, 49, 50, 51, 1000, 65535, half, last, all, 1 << 62, mostInt - 48, mostInt - 1, mostInt,
}

var senderMss = []int{leastInt, -all, -48, -1, 0, 1, 2, 3, 4, 5, 6, 23, 24, 25, 46, 47, 48, 49, 536, 65535, all, mostInt}

// sending is a sender that has not been closed.
func sending(una int, data string, sent int) impl.Sender {
	return impl.Sender{Una: una, Data: data, Sent: sent}
}

// ending is a sender whose FIN is asked for, but not sent.
func ending(una int, data string, sent int) impl.Sender {
	return impl.Sender{Una: una, Data: data, Sent: sent, Fin: true}
}

// ended is a sender that has sent everything, and its FIN.
func ended(una int, data string) impl.Sender {
	return impl.Sender{Una: una, Data: data, Sent: len(data), Fin: true, FinSent: true}
}

// finished is a sender whose FIN is acknowledged.
func finished(una int) impl.Sender { return impl.Sender{Una: una, Fin: true, Done: true} }

func chunkOf(seq int, text string, fin bool) impl.Chunk {
	return impl.Chunk{Seq: seq, Text: text, Fin: fin}
}

// sendersWith lists all valid senders at una with these bytes.
func sendersWith(una int, data string) []impl.Sender {
	list := []impl.Sender{ended(una, data)}
	for sent := range len(data) + 1 {
		list = append(list, sending(una, data, sent), ending(una, data, sent))
	}
	if data == "" {
		list = append(list, finished(una))
	}
	return list
}

func goodSendersAt(places ...int) []impl.Sender {
	var list []impl.Sender
	for _, una := range places {
		for _, data := range senderTexts {
			list = append(list, sendersWith(una, data)...)
		}
	}
	return list
}

func goodSenders() []impl.Sender { return goodSendersAt(senderPlaces...) }

// refusedSenders have one fault each.
func refusedSenders() []impl.Sender {
	var list []impl.Sender
	for _, una := range noPlaces {
		list = append(list, sending(una, "", 0), sending(una, "abc", 2), ending(una, "abc", 2), ended(una, "abc"), ended(una, ""), finished(una))
	}
	for _, una := range []int{0, 1000, last} {
		for _, size := range []int{49, 50, 96, 1000} {
			long := someBytes(size, 4)
			list = append(list, sending(una, long, 0), sending(una, long, 48), sending(una, long, size), ending(una, long, 0), ending(una, long, size), ended(una, long))
		}
		for _, sent := range []int{leastInt, leastInt + 1, -all, -48, -1, 4, 5, 48, 49, all, all + 2, mostInt - 1, mostInt} {
			list = append(list, sending(una, "abc", sent), ending(una, "abc", sent))
		}
		list = append(list, sending(una, "", -1), sending(una, "", 1), ending(una, "", -1), ending(una, "", 1), sending(una, someBytes(48, 3), 49))
		list = append(list,
			impl.Sender{Una: una, Data: "abc", Sent: 3, FinSent: true},
			impl.Sender{Una: una, FinSent: true},
			impl.Sender{Una: una, Data: "abc", Sent: 2, Fin: true, FinSent: true},
			impl.Sender{Una: una, Data: "a", Fin: true, FinSent: true},
			impl.Sender{Una: una, Done: true},
			impl.Sender{Una: una, Fin: true, FinSent: true, Done: true},
			impl.Sender{Una: una, Data: "a", Fin: true, Done: true},
			impl.Sender{Una: una, Data: "a", Sent: 1, Fin: true, Done: true},
		)
	}
	return list
}

// itemsOf lists what s holds: its bytes, and the FIN.
func itemsOf(s impl.Sender) []int {
	var items []int
	for i := range len(s.Data) {
		items = append(items, int(s.Data[i]))
	}
	if s.Fin && !s.Done {
		items = append(items, finItem)
	}
	return items
}

func itemsSent(s impl.Sender) int {
	if s.FinSent {
		return s.Sent + 1
	}
	return s.Sent
}

// senderOf is the sender that holds these items, the first ones sent.
func senderOf(una int, items []int, sent int, fin bool) impl.Sender {
	s := impl.Sender{Una: una, Fin: fin, Done: fin && !slices.Contains(items, finItem)}
	for i, item := range items {
		switch {
		case item == finItem:
			s.FinSent = i < sent
		case i < sent:
			s.Sent++
			fallthrough
		default:
			s.Data += string([]byte{byte(item)})
		}
	}
	return s
}

// validSender builds s again from what it holds.
func validSender(s impl.Sender) bool {
	if !isWord(s.Una, 32) || len(s.Data) > 48 {
		return false
	}
	return slices.Contains(sendersWith(s.Una, s.Data), s)
}

func queuedIn(s impl.Sender, text string) (impl.Sender, int) {
	n := 0
	for validSender(s) && !s.Fin && n < len(text) && len(s.Data) < 48 {
		s.Data += text[n : n+1]
		n++
	}
	return s, n
}

// chunkFrom takes one item after the other.
func chunkFrom(s impl.Sender, window, mss int) (impl.Chunk, bool) {
	if !validSender(s) {
		return impl.Chunk{}, false
	}
	items := itemsOf(s)
	c := impl.Chunk{Seq: exactMod(s.Una, itemsSent(s), 0)}
	for i := itemsSent(s); i < len(items) && i < window; i++ {
		if items[i] == finItem {
			c.Fin = true
		} else if len(c.Text) < mss {
			c.Text += string([]byte{byte(items[i])})
		} else {
			break
		}
	}
	if c.Text == "" && !c.Fin {
		return impl.Chunk{}, false
	}
	return c, true
}

func sentIn(s impl.Sender, c impl.Chunk) impl.Sender {
	items := itemsOf(s)
	left := len(s.Data) - s.Sent
	switch {
	case !validSender(s) || len(c.Text) > left:
		return s
	case !c.Fin:
		return senderOf(s.Una, items, itemsSent(s)+len(c.Text), s.Fin)
	case len(c.Text) < left || !slices.Contains(items, finItem):
		return s
	}
	return senderOf(s.Una, items, len(items), s.Fin)
}

// ackedIn counts up to the acknowledged number.
func ackedIn(s impl.Sender, ack int) (impl.Sender, bool) {
	if !validSender(s) {
		return s, false
	}
	items, sent := itemsOf(s), itemsSent(s)
	place, want := s.Una, exactMod(ack, 0, 0)
	for n := range sent + 1 {
		if place == want {
			return senderOf(place, items[n:], sent-n, s.Fin), true
		}
		place = (place + 1) % all
	}
	return s, false
}

func rewoundIn(s impl.Sender) impl.Sender {
	if !validSender(s) {
		return s
	}
	return senderOf(s.Una, itemsOf(s), 0, s.Fin)
}

func senderShown(s impl.Sender) string {
	text := fmt.Sprintf("{Una %d, %d bytes %.12q, Sent %d", s.Una, len(s.Data), s.Data, s.Sent)
	for _, flag := range []struct {
		set  bool
		name string
	}{{s.Fin, ", Fin"}, {s.FinSent, ", FinSent"}, {s.Done, ", Done"}} {
		if flag.set {
			text += flag.name
		}
	}
	return text + "}"
}

func chunkShown(c impl.Chunk) string {
	return fmt.Sprintf("{Seq %d, %d bytes %.12q, Fin %v}", c.Seq, len(c.Text), c.Text, c.Fin)
}

func checkSenderOk(t *testing.T, s impl.Sender, want bool) {
	t.Helper()
	if got := impl.SenderOk(s); got != want {
		t.Errorf("SenderOk of %s = %v", senderShown(s), got)
	}
}

func checkQueued(t *testing.T, s impl.Sender, text string, want impl.Sender, n int) {
	t.Helper()
	got, m := impl.Queued(s, text)
	if got != want || m != n {
		t.Errorf("Queued(%s, %d bytes) = %s, %d, want %s, %d", senderShown(s), len(text), senderShown(got), m, senderShown(want), n)
	}
}

func checkNext(t *testing.T, s impl.Sender, want int) {
	t.Helper()
	if got := impl.NextOf(s); got != want {
		t.Errorf("NextOf(%s) = %d, want %d", senderShown(s), got, want)
	}
}

func checkChunk(t *testing.T, s impl.Sender, window, mss int, want impl.Chunk) {
	t.Helper()
	got, ok := impl.NextChunk(s, window, mss)
	if got != want || !ok {
		t.Errorf("NextChunk(%s, %d, %d) = %s, %v, want %s", senderShown(s), window, mss, chunkShown(got), ok, chunkShown(want))
	}
}

func checkNoChunk(t *testing.T, s impl.Sender, window, mss int) {
	t.Helper()
	got, ok := impl.NextChunk(s, window, mss)
	if ok || got != (impl.Chunk{}) {
		t.Errorf("NextChunk(%s, %d, %d) = %s, %v, want none", senderShown(s), window, mss, chunkShown(got), ok)
	}
}

func checkSent(t *testing.T, s impl.Sender, c impl.Chunk, want impl.Sender) {
	t.Helper()
	if got := impl.SentOff(s, c); got != want {
		t.Errorf("SentOff(%s, %s) = %s, want %s", senderShown(s), chunkShown(c), senderShown(got), senderShown(want))
	}
}

func checkAcked(t *testing.T, s impl.Sender, ack int, want impl.Sender, ok bool) {
	t.Helper()
	got, is := impl.Acked(s, ack)
	if got != want || is != ok {
		t.Errorf("Acked(%s, %d) = %s, %v, want %s, %v", senderShown(s), ack, senderShown(got), is, senderShown(want), ok)
	}
}

func checkAckRefused(t *testing.T, s impl.Sender, ack int) {
	t.Helper()
	checkAcked(t, s, ack, s, false)
}

func checkRewound(t *testing.T, s, want impl.Sender) {
	t.Helper()
	if got := impl.Rewound(s); got != want {
		t.Errorf("Rewound(%s) = %s, want %s", senderShown(s), senderShown(got), senderShown(want))
	}
}

func TestSenderLimit(t *testing.T) {
	if impl.MaxOut != 48 {
		t.Error("MaxOut is", impl.MaxOut)
	}
}

func TestSenderOk(t *testing.T) {
	checkSenderOk(t, impl.Sender{}, true)
	for _, una := range []int{0, 1, half - 1, half, last - 1, last} {
		for _, s := range []impl.Sender{sending(una, "", 0), sending(una, "abc", 2), ending(una, "abc", 3), ended(una, "abc"), ended(una, ""), finished(una)} {
			checkSenderOk(t, s, true)
		}
	}
	for _, una := range noPlaces {
		for _, s := range []impl.Sender{sending(una, "", 0), sending(una, "abc", 2), ending(una, "abc", 3), ended(una, "abc"), ended(una, ""), finished(una)} {
			checkSenderOk(t, s, false)
		}
	}
	for size := range 200 {
		for _, sent := range []int{0, size / 2, size} {
			checkSenderOk(t, sending(5, someBytes(size, 1), sent), size <= 48)
			checkSenderOk(t, ending(5, someBytes(size, 1), sent), size <= 48)
		}
		checkSenderOk(t, ended(5, someBytes(size, 1)), size <= 48)
	}
	for _, size := range []int{0, 1, 2, 47, 48} {
		for sent := -60; sent < 120; sent++ {
			checkSenderOk(t, sending(5, someBytes(size, 1), sent), sent >= 0 && sent <= size)
			checkSenderOk(t, ending(5, someBytes(size, 1), sent), sent >= 0 && sent <= size)
		}
	}
	for _, sent := range farInts {
		checkSenderOk(t, sending(5, "abc", sent), sent >= 0 && sent <= 3)
		checkSenderOk(t, ending(5, "", sent), sent == 0)
	}
}

func TestSenderOkOfTheFin(t *testing.T) {
	for _, c := range []struct {
		data               string
		sent               int
		fin, finSent, done bool
		want               bool
	}{
		{"abc", 3, false, true, false, false}, {"", 0, false, true, false, false},
		{"abc", 2, true, true, false, false}, {"abc", 0, true, true, false, false}, {"a", 0, true, true, false, false},
		{"abc", 3, true, true, false, true}, {"", 0, true, true, false, true}, {"abc", 3, true, false, false, true}, {"abc", 0, true, false, false, true},
		{"", 0, false, false, true, false}, {"", 0, true, true, true, false}, {"", 0, false, true, true, false},
		{"a", 0, true, false, true, false}, {"a", 1, true, false, true, false}, {"\x00", 1, true, false, true, false}, {"a", 1, true, true, true, false},
		{"", 0, true, false, true, true}, {"", 0, true, false, false, true},
	} {
		for _, una := range []int{0, 7, last} {
			checkSenderOk(t, impl.Sender{Una: una, Data: c.data, Sent: c.sent, Fin: c.fin, FinSent: c.finSent, Done: c.done}, c.want)
		}
	}
}

func TestSenderOkOfAllFields(t *testing.T) {
	for _, s := range goodSenders() {
		checkSenderOk(t, s, true)
	}
	for _, s := range refusedSenders() {
		checkSenderOk(t, s, false)
	}
	valid := 0
	for _, una := range []int{-1, 0, 1, last, all} {
		for size := range 51 {
			for sent := -2; sent < size+3; sent++ {
				for flags := range 8 {
					s := impl.Sender{Una: una, Data: someBytes(size, 2), Sent: sent, Fin: flags&1 > 0, FinSent: flags&2 > 0, Done: flags&4 > 0}
					want := validSender(s)
					checkSenderOk(t, s, want)
					valid += numberIf(want, 1)
				}
			}
		}
	}
	// Of each of 49 sizes: with Fin set or not, each Sent; with FinSent, one; and one with Done.
	if want := 3 * (2*49*50/2 + 49 + 1); valid != want {
		t.Errorf("%d senders are valid, want %d", valid, want)
	}
}

func TestQueued(t *testing.T) {
	full := someBytes(48, 8)
	for _, una := range []int{0, 9, last - 5, last} {
		checkQueued(t, sending(una, "", 0), "", sending(una, "", 0), 0)
		checkQueued(t, sending(una, "", 0), "a", sending(una, "a", 0), 1)
		checkQueued(t, sending(una, "", 0), "abc", sending(una, "abc", 0), 3)
		checkQueued(t, sending(una, "abc", 0), "", sending(una, "abc", 0), 0)
		checkQueued(t, sending(una, "abc", 0), "de", sending(una, "abcde", 0), 2)
		checkQueued(t, sending(una, "abc", 2), "de", sending(una, "abcde", 2), 2)
		checkQueued(t, sending(una, "abc", 3), "de", sending(una, "abcde", 3), 2)
		checkQueued(t, sending(una, "abc", 3), "\x00\xff", sending(una, "abc\x00\xff", 3), 2)
		for _, sent := range []int{0, 1, 40, 45} {
			s := sending(una, full[:45], sent)
			checkQueued(t, s, full[45:47], sending(una, full[:47], sent), 2)
			checkQueued(t, s, full[45:], sending(una, full, sent), 3)
			checkQueued(t, s, full[45:]+"x", sending(una, full, sent), 3)
			checkQueued(t, s, full[45:]+someBytes(5000, 1), sending(una, full, sent), 3)
		}
		for _, sent := range []int{0, 1, 47, 48} {
			s := sending(una, full, sent)
			for _, text := range []string{"", "x", "xy", someBytes(48, 1), someBytes(5000, 1)} {
				checkQueued(t, s, text, s, 0)
			}
		}
		checkQueued(t, sending(una, "", 0), full[:47], sending(una, full[:47], 0), 47)
		checkQueued(t, sending(una, "", 0), full, sending(una, full, 0), 48)
		checkQueued(t, sending(una, "", 0), full+"x", sending(una, full, 0), 48)
	}
}

func TestQueuedOfClosedSenders(t *testing.T) {
	for _, una := range senderPlaces {
		for _, s := range []impl.Sender{ending(una, "", 0), ending(una, "abc", 0), ending(una, "abc", 2), ending(una, "abc", 3), ended(una, ""), ended(una, "abc"), finished(una)} {
			for _, text := range []string{"", "x", "xyz", someBytes(100, 1)} {
				checkQueued(t, s, text, s, 0)
			}
		}
	}
}

func TestQueuedOfRefusedSenders(t *testing.T) {
	for _, s := range refusedSenders() {
		for _, text := range []string{"", "x", "xyz", someBytes(100, 1)} {
			checkQueued(t, s, text, s, 0)
		}
	}
}

func TestQueuedOfAllSizes(t *testing.T) {
	for _, s := range goodSendersAt(9, last-24) {
		for _, size := range []int{0, 1, 2, 3, 23, 24, 25, 43, 44, 45, 46, 47, 48, 49, 95, 96, 97} {
			text := someBytes(size, 9)
			want, n := queuedIn(s, text)
			checkQueued(t, s, text, want, n)
		}
	}
}

func TestQueuedInParts(t *testing.T) {
	whole := someBytes(60, 12)
	for size := 1; size <= 60; size++ {
		s := sending(last, "", 0)
		for part := range slices.Chunk([]byte(whole), size) {
			s, _ = impl.Queued(s, string(part))
		}
		if s != sending(last, whole[:48], 0) {
			t.Errorf("in parts of %d bytes: %s", size, senderShown(s))
		}
	}
}

func TestNextOf(t *testing.T) {
	for _, c := range []struct {
		s    impl.Sender
		want int
	}{
		{impl.Sender{}, 0}, {sending(7, "", 0), 7}, {sending(7, "abc", 0), 7}, {sending(7, "abc", 2), 9}, {sending(7, "abc", 3), 10},
		{ending(7, "abc", 0), 7}, {ending(7, "abc", 3), 10}, {ended(7, "abc"), 11}, {ended(7, ""), 8}, {ending(7, "", 0), 7}, {finished(7), 7},
		{sending(last, "", 0), last}, {sending(last, "a", 0), last}, {sending(last, "a", 1), 0}, {sending(last, "abc", 3), 2}, {ending(last, "a", 1), 0}, {ended(last, "a"), 1},
		{ended(last, ""), 0}, {ending(last, "", 0), last}, {finished(last), last},
		{sending(last-2, "abc", 2), last}, {sending(last-2, "abc", 3), 0}, {ended(last-2, "abc"), 1}, {ending(last-3, "abc", 3), last}, {ended(last-3, "abc"), 0},
		{sending(last-47, someBytes(48, 1), 47), last}, {sending(last-47, someBytes(48, 1), 48), 0}, {ended(last-48, someBytes(48, 1)), 0}, {ended(last, someBytes(48, 1)), 48},
		{sending(half-1, "abc", 2), half + 1},
	} {
		checkNext(t, c.s, c.want)
	}
	for _, s := range goodSenders() {
		checkNext(t, s, exactMod(s.Una, itemsSent(s), 0))
	}
}

// A sequence number is a 32-bit word, also that of a sender that is none.
func TestNextOfRefusedSenders(t *testing.T) {
	for _, s := range refusedSenders() {
		want := exactMod(s.Una, s.Sent, 0)
		if s.FinSent {
			want = exactMod(want, 1, 0)
		}
		checkNext(t, s, want)
	}
}

func TestNextChunkOfWindows(t *testing.T) {
	for _, una := range []int{7, last - 3} {
		at := exactMod(una, 2, 0)
		for _, window := range []int{leastInt, -all, -2, -1, 0, 1, 2} {
			checkNoChunk(t, sending(una, "abcdef", 2), window, 100)
			checkNoChunk(t, ending(una, "abcdef", 2), window, 100)
		}
		for _, s := range []impl.Sender{sending(una, "abcdef", 2), ending(una, "abcdef", 2)} {
			checkChunk(t, s, 3, 100, chunkOf(at, "c", false))
			checkChunk(t, s, 4, 100, chunkOf(at, "cd", false))
			checkChunk(t, s, 5, 100, chunkOf(at, "cde", false))
			checkChunk(t, s, 6, 100, chunkOf(at, "cdef", false))
			for _, window := range []int{7, 8, 1000, all, mostInt - 1, mostInt} {
				checkChunk(t, s, window, 100, chunkOf(at, "cdef", s.Fin))
			}
		}
	}
}

func TestNextChunkOfMss(t *testing.T) {
	for _, una := range []int{7, last - 1} {
		at := exactMod(una, 2, 0)
		for _, s := range []impl.Sender{sending(una, "abcdef", 2), ending(una, "abcdef", 2)} {
			for _, mss := range []int{leastInt, -all, -2, -1, 0} {
				checkNoChunk(t, s, 100, mss)
			}
			checkChunk(t, s, 100, 1, chunkOf(at, "c", false))
			checkChunk(t, s, 100, 2, chunkOf(at, "cd", false))
			checkChunk(t, s, 100, 3, chunkOf(at, "cde", false))
			for _, mss := range []int{4, 5, 6, 7, 536, all, mostInt} {
				checkChunk(t, s, 100, mss, chunkOf(at, "cdef", s.Fin))
			}
		}
	}
}

func TestNextChunkOfNothing(t *testing.T) {
	for _, una := range senderPlaces {
		for _, data := range senderTexts {
			for _, window := range senderWindows {
				checkNoChunk(t, sending(una, data, len(data)), window, 100)
				checkNoChunk(t, ended(una, data), window, 100)
				checkNoChunk(t, finished(una), window, 100)
			}
		}
	}
}

func TestNextChunkOfTheFinAlone(t *testing.T) {
	for _, una := range senderPlaces {
		for _, data := range senderTexts {
			s := ending(una, data, len(data))
			fin := chunkOf(exactMod(una, len(data), 0), "", true)
			for _, mss := range senderMss {
				checkNoChunk(t, s, leastInt, mss)
				checkNoChunk(t, s, -1, mss)
				checkNoChunk(t, s, 0, mss)
				checkNoChunk(t, s, len(data), mss)
				checkChunk(t, s, len(data)+1, mss, fin)
				checkChunk(t, s, len(data)+2, mss, fin)
				checkChunk(t, s, mostInt, mss, fin)
			}
		}
	}
}

// A FIN follows the last byte only if the window has room for both of them.
func TestNextChunkOfAFinWithoutRoom(t *testing.T) {
	for _, una := range senderPlaces {
		for size := 1; size <= 48; size++ {
			data := someBytes(size, 3)
			for _, sent := range []int{0, size / 2, size - 1} {
				s, at := ending(una, data, sent), exactMod(una, sent, 0)
				left := size - sent
				checkChunk(t, s, size, 100, chunkOf(at, data[sent:], false))
				checkChunk(t, s, size, left, chunkOf(at, data[sent:], false))
				checkChunk(t, s, size+1, 100, chunkOf(at, data[sent:], true))
				checkChunk(t, s, size+1, left, chunkOf(at, data[sent:], true))
				if left > 1 {
					checkChunk(t, s, size-1, 100, chunkOf(at, data[sent:size-1], false))
					checkChunk(t, s, size+1, left-1, chunkOf(at, data[sent:size-1], false))
					checkChunk(t, s, mostInt, left-1, chunkOf(at, data[sent:size-1], false))
				} else {
					checkNoChunk(t, s, size-1, 100)
					checkNoChunk(t, s, mostInt, 0)
				}
				// What did not fit is sent once there is room, with nothing before it.
				c, _ := impl.NextChunk(s, size, 100)
				after := impl.SentOff(s, c)
				checkNoChunk(t, after, size, 100)
				checkChunk(t, after, size+1, 100, chunkOf(exactMod(una, size, 0), "", true))
			}
		}
	}
}

func TestNextChunkOfSeqsPastTheEnd(t *testing.T) {
	for _, c := range []struct {
		s    impl.Sender
		want impl.Chunk
	}{
		{sending(last, "abc", 0), chunkOf(last, "abc", false)}, {sending(last, "abc", 1), chunkOf(0, "bc", false)}, {sending(last, "abc", 2), chunkOf(1, "c", false)},
		{sending(last-1, "abc", 1), chunkOf(last, "bc", false)}, {sending(last-1, "abc", 2), chunkOf(0, "c", false)},
		{ending(last, "", 0), chunkOf(last, "", true)}, {ending(last, "a", 1), chunkOf(0, "", true)}, {ending(last, "a", 0), chunkOf(last, "a", true)},
		{ending(last-1, "a", 1), chunkOf(last, "", true)}, {ending(last-46, someBytes(48, 1), 47), chunkOf(0, someBytes(48, 1)[47:], true)},
	} {
		checkChunk(t, c.s, 100, 100, c.want)
	}
}

func TestNextChunkOfAllWindows(t *testing.T) {
	chunks, fins := 0, 0
	for _, s := range goodSendersAt(last - 47) {
		for _, window := range senderWindows {
			for _, mss := range senderMss {
				want, ok := chunkFrom(s, window, mss)
				if !ok {
					checkNoChunk(t, s, window, mss)
					continue
				}
				checkChunk(t, s, window, mss, want)
				chunks++
				fins += numberIf(want.Fin, 1)
			}
		}
	}
	if chunks < 10000 || fins < 1000 {
		t.Error("only", chunks, "chunks", fins, "fins")
	}
}

func TestNextChunkOfRefusedSenders(t *testing.T) {
	for _, s := range refusedSenders() {
		for _, window := range senderWindows {
			for _, mss := range []int{-1, 0, 1, 100, mostInt} {
				checkNoChunk(t, s, window, mss)
			}
		}
	}
}

func TestSentOff(t *testing.T) {
	for _, una := range []int{7, last - 1} {
		checkSent(t, sending(una, "abcdef", 0), chunkOf(una, "", false), sending(una, "abcdef", 0))
		checkSent(t, sending(una, "abcdef", 2), chunkOf(una+2, "c", false), sending(una, "abcdef", 3))
		checkSent(t, sending(una, "abcdef", 2), chunkOf(una+2, "cdef", false), sending(una, "abcdef", 6))
		checkSent(t, sending(una, "abcdef", 6), chunkOf(una+6, "", false), sending(una, "abcdef", 6))
		checkSent(t, ending(una, "abcdef", 2), chunkOf(una+2, "cdef", false), ending(una, "abcdef", 6))
		checkSent(t, ending(una, "abcdef", 2), chunkOf(una+2, "cdef", true), ended(una, "abcdef"))
		checkSent(t, ending(una, "abcdef", 6), chunkOf(una+6, "", true), ended(una, "abcdef"))
		checkSent(t, ending(una, "", 0), chunkOf(una, "", true), ended(una, ""))
		checkSent(t, ended(una, "abc"), chunkOf(una+4, "", false), ended(una, "abc"))
		checkSent(t, finished(una), chunkOf(una, "", false), finished(una))
	}
}

// Only the length of the text counts, not its bytes, and not the number.
func TestSentOffOfOtherChunks(t *testing.T) {
	for _, seq := range append([]int{0, 1, 9, 100, last, all}, farInts...) {
		checkSent(t, sending(7, "abcdef", 2), chunkOf(seq, "xy", false), sending(7, "abcdef", 4))
		checkSent(t, ending(7, "abcdef", 2), chunkOf(seq, "\x00\xff\x00\xff", true), ended(7, "abcdef"))
		checkSent(t, ending(7, "abcdef", 6), chunkOf(seq, "", true), ended(7, "abcdef"))
		checkSent(t, sending(7, "abcdef", 2), chunkOf(seq, "xyzuv", false), sending(7, "abcdef", 2))
	}
}

func TestSentOffUnchanged(t *testing.T) {
	for _, una := range senderPlaces {
		for _, c := range []struct {
			s     impl.Sender
			chunk impl.Chunk
		}{
			// more bytes than there are to send
			{sending(una, "", 0), chunkOf(una, "a", false)}, {sending(una, "abc", 0), chunkOf(una, "abcd", false)}, {sending(una, "abc", 2), chunkOf(una, "cd", false)},
			{sending(una, "abc", 3), chunkOf(una, "d", false)}, {sending(una, "abc", 1), chunkOf(una, someBytes(5000, 1), false)}, {ending(una, "abc", 2), chunkOf(una, "cd", false)},
			{ending(una, "abc", 2), chunkOf(una, "cd", true)}, {ending(una, "", 0), chunkOf(una, "a", true)}, {finished(una), chunkOf(una, "a", false)}, {finished(una), chunkOf(una, "a", true)},
			{ended(una, "abc"), chunkOf(una, "d", false)}, {ended(una, "abc"), chunkOf(una, "d", true)}, {ended(una, ""), chunkOf(una, "a", true)},
			// a FIN that is not asked for
			{sending(una, "", 0), chunkOf(una, "", true)}, {sending(una, "abc", 0), chunkOf(una, "", true)}, {sending(una, "abc", 0), chunkOf(una, "abc", true)},
			{sending(una, "abc", 3), chunkOf(una, "", true)}, {sending(una, "abc", 2), chunkOf(una, "c", true)},
			// a FIN that is acknowledged
			{finished(una), chunkOf(una, "", true)},
			// a FIN before bytes
			{ending(una, "abc", 0), chunkOf(una, "", true)}, {ending(una, "abc", 0), chunkOf(una, "ab", true)}, {ending(una, "abc", 2), chunkOf(una, "", true)}, {ending(una, "a", 0), chunkOf(una, "", true)},
			// a FIN that is sent
			{ended(una, ""), chunkOf(una, "", true)}, {ended(una, "abc"), chunkOf(una, "", true)},
		} {
			checkSent(t, c.s, c.chunk, c.s)
		}
	}
}

func TestSentOffOfRefusedSenders(t *testing.T) {
	for _, s := range refusedSenders() {
		for _, text := range []string{"", "a", "abc", someBytes(48, 1), someBytes(100, 1)} {
			for _, fin := range bools {
				checkSent(t, s, chunkOf(s.Una, text, fin), s)
			}
		}
	}
}

func TestSentOffOfAllSizes(t *testing.T) {
	for _, s := range goodSenders() {
		for _, size := range []int{0, 1, 2, 3, 4, 5, 23, 24, 25, 46, 47, 48, 49, 96} {
			for _, fin := range bools {
				c := chunkOf(impl.NextOf(s), someBytes(size, 2), fin)
				checkSent(t, s, c, sentIn(s, c))
			}
		}
	}
}

func TestSentOffOfNextChunks(t *testing.T) {
	for _, s := range goodSenders() {
		for _, window := range []int{0, 1, 3, 24, 47, 48, 49, 100} {
			for _, mss := range []int{0, 1, 5, 48} {
				c, ok := impl.NextChunk(s, window, mss)
				want := s
				want.Sent += len(c.Text)
				want.FinSent = s.FinSent || c.Fin
				checkSent(t, s, c, want)
				if ok && impl.NextOf(want) != exactMod(c.Seq, itemsSent(want), itemsSent(s)) {
					t.Errorf("after %s: next %d", chunkShown(c), impl.NextOf(want))
				}
			}
		}
	}
}

func TestAcked(t *testing.T) {
	for _, una := range []int{7, half - 2, last - 8} {
		for _, c := range []struct {
			s    impl.Sender
			n    int
			want impl.Sender
		}{
			{sending(una, "", 0), 0, sending(una, "", 0)}, {sending(una, "abcdef", 0), 0, sending(una, "abcdef", 0)}, {sending(una, "abcdef", 4), 0, sending(una, "abcdef", 4)},
			{sending(una, "abcdef", 4), 1, sending(una+1, "bcdef", 3)}, {sending(una, "abcdef", 4), 3, sending(una+3, "def", 1)}, {sending(una, "abcdef", 4), 4, sending(una+4, "ef", 0)},
			{sending(una, "abcdef", 6), 5, sending(una+5, "f", 1)}, {sending(una, "abcdef", 6), 6, sending(una+6, "", 0)},
			{ending(una, "abcdef", 4), 4, ending(una+4, "ef", 0)}, {ending(una, "abcdef", 6), 6, ending(una+6, "", 0)}, {ending(una, "", 0), 0, ending(una, "", 0)},
			{ended(una, "abcdef"), 0, ended(una, "abcdef")}, {ended(una, "abcdef"), 1, ended(una+1, "bcdef")}, {ended(una, "abcdef"), 5, ended(una+5, "f")},
			{ended(una, "abcdef"), 6, ended(una+6, "")}, {ended(una, "abcdef"), 7, finished(una + 7)}, {ended(una, ""), 0, ended(una, "")}, {ended(una, ""), 1, finished(una + 1)},
			{finished(una), 0, finished(una)},
		} {
			checkAcked(t, c.s, una+c.n, c.want, true)
		}
	}
}

func TestAckedOfWrongNumbers(t *testing.T) {
	for _, una := range senderPlaces {
		for _, c := range []struct {
			s    impl.Sender
			sent int
		}{
			{sending(una, "", 0), 0}, {sending(una, "abcdef", 0), 0}, {sending(una, "abcdef", 1), 1}, {sending(una, "abcdef", 4), 4}, {sending(una, "abcdef", 6), 6},
			{ending(una, "", 0), 0}, {ending(una, "abcdef", 0), 0}, {ending(una, "abcdef", 4), 4}, {ending(una, "abcdef", 6), 6},
			{ended(una, ""), 1}, {ended(una, "abcdef"), 7}, {finished(una), 0}, {sending(una, someBytes(48, 1), 48), 48}, {ended(una, someBytes(48, 1)), 49},
		} {
			for _, n := range []int{-1, -2, -c.sent - 1, -48, -half, -half + 1, half, half - 1, half + 1, half + c.sent, c.sent + 1, c.sent + 2, c.sent + 3, 50, 1000} {
				if n != 0 {
					checkAckRefused(t, c.s, exactMod(una, n, 0))
				}
			}
			for n := range c.sent + 1 {
				if _, ok := impl.Acked(c.s, exactMod(una, n, 0)); !ok {
					t.Errorf("Acked(%s) of %d more was refused", senderShown(c.s), n)
				}
			}
		}
	}
}

func TestAckedPastTheEnd(t *testing.T) {
	for _, c := range []struct {
		s    impl.Sender
		ack  int
		want impl.Sender
	}{
		{sending(last, "abc", 3), last, sending(last, "abc", 3)}, {sending(last, "abc", 3), 0, sending(0, "bc", 2)}, {sending(last, "abc", 3), 2, sending(2, "", 0)},
		{sending(last-1, "abc", 3), last, sending(last, "bc", 2)}, {sending(last-1, "abc", 3), 0, sending(0, "c", 1)}, {sending(last-1, "abc", 3), 1, sending(1, "", 0)},
		{ended(last, ""), last, ended(last, "")}, {ended(last, ""), 0, finished(0)}, {ended(last, "a"), 0, ended(0, "")}, {ended(last, "a"), 1, finished(1)},
		{ended(last-3, "abc"), last, ended(last, "")}, {ended(last-3, "abc"), 0, finished(0)}, {finished(last), last, finished(last)},
		{ended(last-46, someBytes(48, 1)), 2, finished(2)}, {ended(last-48, someBytes(48, 1)), 0, finished(0)},
	} {
		checkAcked(t, c.s, c.ack, c.want, true)
	}
	checkAckRefused(t, sending(last, "abc", 3), last-1)
	checkAckRefused(t, sending(last, "abc", 3), 3)
	checkAckRefused(t, sending(0, "abc", 3), last)
	checkAckRefused(t, sending(last-1, "abc", 1), 0)
	checkAckRefused(t, ended(last, "a"), 2)
	checkAckRefused(t, ending(last, "a", 1), 1)
	checkAckRefused(t, finished(last), 0)
	checkAckRefused(t, finished(0), last)
}

func TestAckedAgain(t *testing.T) {
	for _, s := range goodSenders() {
		for n := range itemsSent(s) + 1 {
			ack := exactMod(s.Una, n, 0)
			once, ok := impl.Acked(s, ack)
			if !ok {
				t.Errorf("Acked(%s, %d) was refused", senderShown(s), ack)
			}
			checkAcked(t, once, ack, once, true)
			if n > 0 {
				checkAckRefused(t, once, s.Una)
				checkAckRefused(t, once, exactMod(ack, -1, 0))
			}
		}
	}
}

func TestAckedInParts(t *testing.T) {
	for _, s := range goodSenders() {
		used := itemsSent(s)
		for first := range used + 1 {
			part, _ := impl.Acked(s, exactMod(s.Una, first, 0))
			want, _ := impl.Acked(s, exactMod(s.Una, used, 0))
			checkAcked(t, part, exactMod(s.Una, used, 0), want, true)
		}
	}
}

func TestAckedOfAllNumbers(t *testing.T) {
	for _, s := range goodSendersAt(0, half-1, last-24, last) {
		for n := -60; n < 110; n++ {
			ack := exactMod(s.Una, n, 0)
			want, ok := ackedIn(s, ack)
			checkAcked(t, s, ack, want, ok)
		}
		for _, n := range []int{half - 49, half - 1, half, half + 1, half + 49} {
			checkAckRefused(t, s, exactMod(s.Una, n, 0))
		}
	}
}

// An ack that is no word is what SeqDiff takes it for; Una stays a word.
func TestAckedOfNoWords(t *testing.T) {
	for _, add := range []int{all, -all, 3 * all, -5 * all, 1 << 62, -1 << 62, leastInt} {
		checkAcked(t, sending(7, "abc", 2), 9+add, sending(9, "c", 0), true)
		checkAcked(t, sending(7, "abc", 2), 7+add, sending(7, "abc", 2), true)
		checkAcked(t, ended(last, "a"), 1+add, finished(1), true)
		checkAckRefused(t, sending(7, "abc", 2), 10+add)
		checkAckRefused(t, sending(7, "abc", 2), 6+add)
	}
	checkAcked(t, ended(last, ""), -1, ended(last, ""), true)
	checkAcked(t, ended(last-1, "a"), -1, ended(last, ""), true)
	checkAcked(t, ended(last, ""), all, finished(0), true)
	checkAcked(t, sending(last, "", 0), mostInt, sending(last, "", 0), true)
	checkAcked(t, sending(0, "", 0), leastInt, sending(0, "", 0), true)
	checkAckRefused(t, sending(0, "", 0), mostInt)
	checkAckRefused(t, sending(last, "", 0), leastInt)
	for _, s := range goodSendersAt(0, last-24) {
		for _, ack := range append(slices.Clone(noPlaces), farInts...) {
			want, ok := ackedIn(s, ack)
			checkAcked(t, s, ack, want, ok)
		}
	}
}

func TestAckedOfRefusedSenders(t *testing.T) {
	for _, s := range refusedSenders() {
		for n := -2; n < 52; n++ {
			checkAckRefused(t, s, exactMod(s.Una, n, 0))
			checkAckRefused(t, s, s.Una+n)
		}
		checkAckRefused(t, s, exactMod(s.Una, s.Sent, 0))
	}
}

func TestRewound(t *testing.T) {
	for _, una := range senderPlaces {
		checkRewound(t, sending(una, "", 0), sending(una, "", 0))
		checkRewound(t, sending(una, "abc", 0), sending(una, "abc", 0))
		checkRewound(t, sending(una, "abc", 2), sending(una, "abc", 0))
		checkRewound(t, sending(una, "abc", 3), sending(una, "abc", 0))
		checkRewound(t, ending(una, "abc", 2), ending(una, "abc", 0))
		checkRewound(t, ended(una, "abc"), ending(una, "abc", 0))
		checkRewound(t, ended(una, ""), ending(una, "", 0))
		checkRewound(t, finished(una), finished(una))
	}
	for _, s := range goodSenders() {
		again := rewoundIn(s)
		checkRewound(t, s, again)
		checkRewound(t, again, again)
	}
	for _, s := range refusedSenders() {
		checkRewound(t, s, s)
	}
}

// textFrom reads all that s has to send, in chunks of at most mss bytes.
func textFrom(t *testing.T, s impl.Sender, mss int) (text string, fin bool) {
	t.Helper()
	for {
		c, ok := impl.NextChunk(s, mostInt, mss)
		if !ok {
			return text, fin
		}
		if fin || c.Seq != exactMod(s.Una, itemsSent(s), 0) {
			t.Errorf("from %s: %s", senderShown(s), chunkShown(c))
		}
		text, fin = text+c.Text, c.Fin
		s = impl.SentOff(s, c)
	}
}

func TestRewoundSendsTheSame(t *testing.T) {
	for _, s := range goodSenders() {
		again := impl.Rewound(s)
		if c, ok := impl.NextChunk(again, mostInt, 48); ok && c.Seq != s.Una || ok != (len(itemsOf(s)) > 0) {
			t.Errorf("rewound, %s gives %s, %v", senderShown(s), chunkShown(c), ok)
		}
		for _, mss := range []int{1, 7, 48} {
			if text, fin := textFrom(t, again, mss); text != s.Data || fin != (s.Fin && !s.Done) {
				t.Errorf("rewound, %s sends %q, %v", senderShown(s), text, fin)
			}
		}
	}
}

func TestSenderOfConfusedNumbers(t *testing.T) {
	// the window, and the window less what is sent
	checkChunk(t, sending(100, "abcdefghij", 3), 5, 100, chunkOf(103, "de", false))
	checkChunk(t, sending(100, "abcdefghij", 6), 7, 100, chunkOf(106, "g", false))
	checkNoChunk(t, sending(100, "abcdefghij", 6), 4, 100)
	// the length of Data, and Sent
	checkNext(t, sending(100, "abcdefghij", 3), 103)
	checkAckRefused(t, sending(100, "abcdefghij", 3), 110)
	checkAckRefused(t, sending(100, "abcdefghij", 3), 104)
	checkAcked(t, sending(100, "abcdefghij", 3), 103, sending(103, "defghij", 0), true)
	checkSent(t, sending(100, "abcdefghij", 3), chunkOf(103, "defghijk", false), sending(100, "abcdefghij", 3))
	checkQueued(t, sending(100, someBytes(40, 1), 3), someBytes(20, 2), sending(100, someBytes(40, 1)+someBytes(20, 2)[:8], 3), 8)
	// the number of the last byte, and that of the FIN
	checkAcked(t, ended(100, "abc"), 102, ended(102, "c"), true)
	checkAcked(t, ended(100, "abc"), 103, ended(103, ""), true)
	checkAcked(t, ended(100, "abc"), 104, finished(104), true)
	checkAckRefused(t, ended(100, "abc"), 105)
	// a FIN that is asked for, one that is sent, and one that is acknowledged
	checkNext(t, ending(100, "abc", 3), 103)
	checkNext(t, ended(100, "abc"), 104)
	checkNext(t, finished(104), 104)
	checkAckRefused(t, ending(100, "abc", 3), 104)
	checkAckRefused(t, finished(104), 105)
	checkChunk(t, ending(100, "abc", 3), 100, 100, chunkOf(103, "", true))
	checkNoChunk(t, ended(100, "abc"), 100, 100)
	checkNoChunk(t, finished(104), 100, 100)
	checkRewound(t, ended(100, "abc"), ending(100, "abc", 0))
	checkRewound(t, finished(104), finished(104))
}

// streamPeer keeps what it is sent, in order and once.
type streamPeer struct {
	first int
	text  string
	ended bool
}

func (p *streamPeer) next() int { return exactMod(p.first, len(p.text)+numberIf(p.ended, 1), 0) }

// take keeps what is new of c, if nothing before it is missing.
func (p *streamPeer) take(c impl.Chunk) {
	known := exactDiff(p.next(), c.Seq)
	if known < 0 {
		return
	}
	p.text += c.Text[min(known, len(c.Text)):]
	p.ended = p.ended || c.Fin
}

// transfer is a sender, its peer, and what was queued, acknowledged and sent until now.
type transfer struct {
	s      impl.Sender
	peer   streamPeer
	start  int
	queued string
	acked  int
	most   int
}

func transferFrom(start int) transfer {
	return transfer{s: sending(start, "", 0), peer: streamPeer{first: start}, start: start}
}

// holds reports whether the sender has just the bytes that were queued and are not
// acknowledged, and the peer just the first ones.
func (x *transfer) holds() bool {
	end := x.acked - numberIf(x.s.Done, 1)
	return impl.SenderOk(x.s) && validSender(x.s) && x.s.Una == exactMod(x.start, x.acked, 0) &&
		x.queued[end:] == x.s.Data && strings.HasPrefix(x.queued, x.peer.text)
}

func (x *transfer) queue(text string) bool {
	after, n := impl.Queued(x.s, text)
	want := min(len(text), 48-len(x.s.Data))
	if x.s.Fin {
		want = 0
	}
	x.s = after
	x.queued += text[:want]
	return n == want
}

// send takes a chunk, and lets it arrive or not.
func (x *transfer) send(window, mss int, arrives bool) bool {
	c, ok := impl.NextChunk(x.s, window, mss)
	want, sent := chunkFrom(x.s, window, mss)
	if c != want || ok != sent {
		return false
	}
	if !ok {
		return true
	}
	x.s = impl.SentOff(x.s, c)
	x.most = max(x.most, x.acked+itemsSent(x.s))
	if arrives {
		x.peer.take(c)
	}
	return impl.NextOf(x.s) == exactMod(c.Seq, len(c.Text)+numberIf(c.Fin, 1), 0)
}

// ack acknowledges n numbers more than there are acknowledged.
func (x *transfer) ack(n, add int) bool {
	counts := n >= 0 && n <= itemsSent(x.s)
	after, ok := impl.Acked(x.s, exactMod(x.start, x.acked+n, 0)+add)
	if !counts {
		return !ok && after == x.s
	}
	x.acked += n
	x.s = after
	return ok
}

// ackDrawn acknowledges what the peer has got, a part of it, what is acknowledged
// already, or what was never sent.
func (x *transfer) ackDrawn(draw int) bool {
	got := len(x.peer.text) + numberIf(x.peer.ended, 1) - x.acked
	add := []int{0, 0, 0, all, -all, 7 * all}[draw>>8%6]
	switch draw % 8 {
	case 0, 1, 2:
		return x.ack(got, add)
	case 3, 4:
		return x.ack(draw>>16%(got+1), add)
	case 5:
		return x.ack(-1-draw>>16%100, add)
	case 6:
		return x.ack(max(itemsSent(x.s), got)+1+draw>>16%100, add)
	}
	return x.ack(half-50+draw>>16%100, add)
}

func drawnNumber(seed int) int { return someInt(seed*64+1) & mostInt }

// A transfer over which chunks get lost and are sent again.
func TestNoByteIsLost(t *testing.T) {
	for run := range 300 {
		x := transferFrom(senderPlaces[run%len(senderPlaces)])
		closeAt := 100 + run
		for step := range 500 {
			draw := drawnNumber(run*1000 + step)
			ok := true
			switch draw >> 40 % 16 {
			case 0, 1, 2, 3:
				ok = x.queue(someBytes(draw%40, draw>>20%1000))
			case 4, 5, 6, 7, 8, 9:
				ok = x.send(draw%60-2, draw>>8%20-1, draw>>16%4 > 0)
			case 10, 11, 12, 13:
				ok = x.ackDrawn(draw & 0xffffffff)
			case 14:
				checkRewound(t, x.s, rewoundIn(x.s))
				x.s = impl.Rewound(x.s)
			default:
				x.s.Fin = x.s.Fin || step > closeAt
			}
			if !ok || !x.holds() {
				t.Fatalf("run %d, step %d: %s, acknowledged %d, the peer has %d bytes", run, step, senderShown(x.s), x.acked, len(x.peer.text))
			}
		}
		x.finish(t)
	}
}

// finish sends all that is left, again where it was lost.
func (x *transfer) finish(t *testing.T) {
	t.Helper()
	x.s.Fin = true
	for range 200 {
		x.s = impl.Rewound(x.s)
		for range 4 {
			if !x.send(60, 20, true) || !x.holds() {
				t.Fatalf("at the end: %s", senderShown(x.s))
			}
		}
		if !x.ack(len(x.peer.text)+numberIf(x.peer.ended, 1)-x.acked, 0) || !x.holds() {
			t.Fatalf("at the end: %s", senderShown(x.s))
		}
	}
	if !x.s.Done || x.peer.text != x.queued || !x.peer.ended || x.acked != len(x.queued)+1 {
		t.Errorf("the peer has %d bytes of %d, ended %v, of %s", len(x.peer.text), len(x.queued), x.peer.ended, senderShown(x.s))
	}
}

// A transfer over which nothing gets lost: the peer need not look at any number to
// have each byte once.
func TestNoByteIsSentTwice(t *testing.T) {
	for run := range 300 {
		x := transferFrom(senderPlaces[run%len(senderPlaces)])
		got, ends := "", 0
		for step := range 500 {
			draw := drawnNumber(run*1000 + step + 500)
			ok := true
			switch draw >> 40 % 8 {
			case 0, 1:
				ok = x.queue(someBytes(draw%40, draw>>20%1000))
			case 2, 3, 4:
				c, _ := impl.NextChunk(x.s, draw%60, draw>>8%20)
				ok = ends == 0 || c == impl.Chunk{}
				got += c.Text
				ends += numberIf(c.Fin, 1)
				ok = x.send(draw%60, draw>>8%20, true) && ok
			case 5, 6:
				ok = x.ackDrawn(draw & 0xffffffff)
			default:
				x.s.Fin = x.s.Fin || step > 400
			}
			if !ok || !x.holds() || got != x.peer.text || len(got)+ends != x.acked+itemsSent(x.s) || len(got)+ends != x.most {
				t.Fatalf("run %d, step %d: %s, acknowledged %d, sent %d bytes", run, step, senderShown(x.s), x.acked, len(got))
			}
		}
	}
}

// A transfer around the whole number space takes too long; this one begins at each
// number around its end.
func TestTransfersAroundTheEnd(t *testing.T) {
	text := someBytes(150, 44)
	for back := range 160 {
		start := exactMod(5, 0, back)
		x := transferFrom(start)
		for len(x.queued) < len(text) {
			rest := text[len(x.queued):]
			if !x.queue(rest) || !x.send(30, 11, true) || !x.send(30, 7, true) || !x.ack(len(x.peer.text)-x.acked, 0) || !x.holds() {
				t.Fatalf("from %d: %s", start, senderShown(x.s))
			}
		}
		x.finish(t)
		if x.s != finished(exactMod(start, 151, 0)) || x.peer.text != text {
			t.Errorf("from %d: %s", start, senderShown(x.s))
		}
	}
}

// checkSenderCalls checks that all functions answer what the text by itself asks.
func checkSenderCalls(t *testing.T, s impl.Sender, text string, window, mss, ack int, c impl.Chunk) {
	t.Helper()
	given := s
	checkSenderOk(t, s, validSender(s))
	queued, n := queuedIn(s, text)
	checkQueued(t, s, text, queued, n)
	next := exactMod(s.Una, s.Sent, 0)
	checkNext(t, s, exactMod(next, numberIf(s.FinSent, 1), 0))
	if want, ok := chunkFrom(s, window, mss); ok {
		checkChunk(t, s, window, mss, want)
	} else {
		checkNoChunk(t, s, window, mss)
	}
	checkSent(t, s, c, sentIn(s, c))
	acked, ok := ackedIn(s, ack)
	checkAcked(t, s, ack, acked, ok)
	checkRewound(t, s, rewoundIn(s))
	if s != given {
		t.Errorf("%s became %s", senderShown(given), senderShown(s))
	}
}

func TestSenderIsTotal(t *testing.T) {
	for _, a := range farInts {
		for _, b := range farInts {
			for flags := range 8 {
				s := impl.Sender{Una: a, Data: "abc", Sent: b, Fin: flags&1 > 0, FinSent: flags&2 > 0, Done: flags&4 > 0}
				c := chunkOf(b, "a", flags&1 > 0)
				checkSenderCalls(t, s, "def", a, b, b, c)
				s.Una = 1000
				checkSenderCalls(t, s, "def", b, a, a, c)
				s.Sent = 3
				checkSenderCalls(t, s, "def", a, b, b, c)
			}
		}
	}
}

// someSender draws senders, most of them valid.
func someSender(seed int) impl.Sender {
	draw := drawnNumber(seed)
	list := sendersWith(senderPlaces[draw%len(senderPlaces)], someBytes(draw>>8%49, draw>>16%100))
	s := list[draw>>24%len(list)]
	switch draw >> 44 % 16 {
	case 0:
		s.Una = noPlaces[draw%len(noPlaces)]
	case 1:
		s.Sent += draw>>50%7 - 3
	case 2:
		s.Fin = !s.Fin
	case 3:
		s.FinSent = !s.FinSent
	case 4:
		s.Done = !s.Done
	case 5:
		s.Data += someBytes(draw>>50%7, 3)
	}
	return s
}

func TestSenderOfDrawnArguments(t *testing.T) {
	valid := 0
	for seed := range 20000 {
		s := someSender(seed)
		draw := drawnNumber(seed + 1<<20)
		valid += numberIf(validSender(s), 1)
		ack := exactMod(s.Una, draw>>10%60-5, 0)
		c := chunkOf(draw, someBytes(draw>>20%30, seed%50), draw>>30%2 > 0)
		checkSenderCalls(t, s, someBytes(draw>>32%60, seed%30), draw%60-3, draw>>40%30-2, ack, c)
	}
	if valid < 12000 || valid > 19000 {
		t.Error(valid, "valid senders")
	}
}

func TestSenderRepeats(t *testing.T) {
	for seed := range 2000 {
		s := someSender(seed)
		first, n := impl.Queued(s, "some text")
		chunk, ok := impl.NextChunk(s, 20, 9)
		acked, is := impl.Acked(s, impl.NextOf(s))
		rewound := impl.Rewound(s)
		sent := impl.SentOff(s, chunk)
		checkQueued(t, s, "some text", first, n)
		if again, still := impl.NextChunk(s, 20, 9); again != chunk || still != ok {
			t.Errorf("NextChunk(%s) = %s, and again %s", senderShown(s), chunkShown(chunk), chunkShown(again))
		}
		checkAcked(t, s, impl.NextOf(s), acked, is)
		checkRewound(t, s, rewound)
		checkSent(t, s, chunk, sent)
	}
}

func TestSenderKeepsNothing(t *testing.T) {
	checkAtOnce(t, func(worker int, faults map[string]int) {
		for seed := range 3000 {
			s := someSender(worker*3000 + seed)
			count := func(name string, right bool) {
				if !right {
					faults[name]++
				}
			}
			queued, n := queuedIn(s, "some text")
			got, m := impl.Queued(s, "some text")
			count("Queued", got == queued && m == n)
			want, ok := chunkFrom(s, 20, 9)
			c, is := impl.NextChunk(s, 20, 9)
			count("NextChunk", c == want && is == ok)
			count("SentOff", impl.SentOff(s, want) == sentIn(s, want))
			acked, ok := ackedIn(s, impl.NextOf(s))
			after, is := impl.Acked(s, impl.NextOf(s))
			count("Acked", after == acked && is == ok)
			count("Rewound", impl.Rewound(s) == rewoundIn(s))
			count("SenderOk", impl.SenderOk(s) == validSender(s))
		}
	})
}
