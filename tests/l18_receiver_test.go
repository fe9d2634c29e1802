package tests

import (
	"fmt"
	"maps"
	"slices"
	"strings"
	"testing"

	"loop.example/g00504/impl"
)

// receiverPlaces are numbers that a receiver may expect, many of them so near to the
// end of the number space that its bytes or its end pass it.
var receiverPlaces = []int{0, 1, 5, half - 4, half - 1, half, last - 33, last - 32, last - 31, last - 7, last - 3, last - 1, last, 123456789}

// manyBytes are as many as a receiver keeps, and some more.
var manyBytes = someBytes(40, 18)

func piece(off int, text string) impl.Piece { return impl.Piece{Off: off, Text: text} }

// open is a receiver that does not know its end.
func open(next int, data string, held ...impl.Piece) impl.Receiver {
	return impl.Receiver{Next: next, Data: data, Held: held, Fin: -1}
}

// closing is a receiver that knows its end, but lacks bytes before it.
func closing(next int, data string, fin int, held ...impl.Piece) impl.Receiver {
	return impl.Receiver{Next: next, Data: data, Held: held, Fin: fin}
}

// closed is a receiver that has everything up to the end.
func closed(next int, data string) impl.Receiver {
	return impl.Receiver{Next: next, Data: data, Fin: -1, Done: true}
}

func sameReceived(a, b impl.Receiver) bool {
	return a.Next == b.Next && a.Data == b.Data && slices.Equal(a.Held, b.Held) && a.Fin == b.Fin && a.Done == b.Done
}

func copyReceived(r impl.Receiver) impl.Receiver {
	r.Held = slices.Clone(r.Held)
	return r
}

// byteTable has, by offset, the bytes that a receiver holds.
type byteTable map[int]byte

// pieces builds the longest pieces.
func (b byteTable) pieces() []impl.Piece {
	var list []impl.Piece
	for _, off := range slices.Sorted(maps.Keys(b)) {
		if _, ok := b[off-1]; !ok {
			list = append(list, piece(off, ""))
		}
		list[len(list)-1].Text += string([]byte{b[off]})
	}
	return list
}

// shifted has the bytes behind the first one, which is at 0.
func (b byteTable) shifted() byteTable {
	moved := byteTable{}
	for off, value := range b {
		if off > 0 {
			moved[off-1] = value
		}
	}
	return moved
}

func (b byteTable) put(p impl.Piece) {
	for i := range len(p.Text) {
		b[p.Off+i] = p.Text[i]
	}
}

// validReceiver builds the pieces again from their bytes.
func validReceiver(r impl.Receiver) bool {
	window := 32 - len(r.Data)
	if !isWord(r.Next, 32) || window < 0 || len(r.Held) > 3 {
		return false
	}
	if r.Done {
		return len(r.Held) == 0 && r.Fin == -1
	}
	limit := window
	if r.Fin != -1 {
		limit = r.Fin
	}
	if limit > window || limit == 0 && r.Fin == 0 {
		return false
	}
	bytes := byteTable{}
	for _, p := range r.Held {
		if p.Off < 1 || p.Off > 40 || len(p.Text) > 40 {
			return false
		}
		bytes.put(p)
	}
	for off := range bytes {
		if off >= limit {
			return false
		}
	}
	return limit >= 0 && slices.Equal(bytes.pieces(), r.Held)
}

// arrivedIn keeps each byte by itself.
func arrivedIn(r impl.Receiver, seq int, text string, fin bool) impl.Receiver {
	if !validReceiver(r) || r.Done {
		return r
	}
	after, bytes, window := r, byteTable{}, 32-len(r.Data)
	for _, p := range r.Held {
		bytes.put(p)
	}
	first := exactMod(seq, 0, r.Next)
	highest := -1
	for i := range len(text) {
		off := (first + i) % all
		_, here := bytes[off]
		if off < window && !here && (r.Fin == -1 || off < r.Fin) {
			bytes[off] = text[i]
		}
	}
	for off := range bytes {
		highest = max(highest, off)
	}
	if end := (first + len(text)) % all; fin && r.Fin == -1 && end <= window && end > highest {
		after.Fin = end
	}
	for b, ok := bytes[0]; ok; b, ok = bytes[0] {
		after.Data += string([]byte{b})
		after.Next = (after.Next + 1) % all
		after.Fin = max(after.Fin-1, -1)
		bytes = bytes.shifted()
	}
	if after.Fin == 0 {
		after.Next, after.Fin, after.Done = (after.Next+1)%all, -1, true
	}
	after.Held = bytes.pieces()
	if len(after.Held) > 3 {
		return r
	}
	return after
}

// takenOut takes one byte after the other.
func takenOut(r impl.Receiver, n int) (impl.Receiver, string) {
	text := ""
	for validReceiver(r) && len(text) < n && r.Data != "" {
		text += r.Data[:1]
		r.Data = r.Data[1:]
	}
	return r, text
}

func receiverShown(r impl.Receiver) string {
	text := fmt.Sprintf("{Next %d, %d bytes %.12q", r.Next, len(r.Data), r.Data)
	for _, p := range r.Held {
		text += fmt.Sprintf(", %d: %.12q", p.Off, p.Text)
	}
	if r.Fin != -1 {
		text += fmt.Sprintf(", Fin %d", r.Fin)
	}
	if r.Done {
		text += ", Done"
	}
	return text + "}"
}

func checkReceiverOk(t *testing.T, r impl.Receiver, want bool) {
	t.Helper()
	if got := impl.ReceiverOk(r); got != want {
		t.Errorf("ReceiverOk of %s = %v", receiverShown(r), got)
	}
}

func checkWindow(t *testing.T, r impl.Receiver, want int) {
	t.Helper()
	if got := impl.WindowOf(r); got != want {
		t.Errorf("WindowOf(%s) = %d, want %d", receiverShown(r), got, want)
	}
}

func checkArrived(t *testing.T, r impl.Receiver, seq int, text string, fin bool, want impl.Receiver) {
	t.Helper()
	given := copyReceived(r)
	got := impl.Arrived(r, seq, text, fin)
	if !sameReceived(got, want) {
		t.Errorf("Arrived(%s, %d, %d bytes %.12q, %v) = %s, want %s", receiverShown(given), seq, len(text), text, fin, receiverShown(got), receiverShown(want))
	}
	if !sameReceived(r, given) {
		t.Errorf("Arrived changed %s to %s", receiverShown(given), receiverShown(r))
	}
}

func checkNotArrived(t *testing.T, r impl.Receiver, seq int, text string, fin bool) {
	t.Helper()
	checkArrived(t, r, seq, text, fin, copyReceived(r))
}

func checkTakenIn(t *testing.T, r impl.Receiver, n int, want impl.Receiver, text string) {
	t.Helper()
	given := copyReceived(r)
	got, taken := impl.TakenIn(r, n)
	if !sameReceived(got, want) || taken != text {
		t.Errorf("TakenIn(%s, %d) = %s, %q, want %s, %q", receiverShown(given), n, receiverShown(got), taken, receiverShown(want), text)
	}
	if !sameReceived(r, given) {
		t.Errorf("TakenIn changed %s to %s", receiverShown(given), receiverShown(r))
	}
}

func checkSameReceiver(t *testing.T, a, b impl.Receiver, want bool) {
	t.Helper()
	if impl.SameReceiver(a, b) != want || impl.SameReceiver(b, a) != want {
		t.Errorf("SameReceiver of %s and %s is not %v both ways round", receiverShown(a), receiverShown(b), want)
	}
}

// receiversAt lists valid receivers of all kinds.
func receiversAt(next int) []impl.Receiver {
	x := manyBytes
	return []impl.Receiver{
		open(next, ""), open(next, "abc"), open(next, x[:31]), open(next, x[:32]), open(next, x[:27]),
		open(next, "", piece(1, "b")), open(next, "", piece(1, x[:31])), open(next, "", piece(31, "z")), open(next, "abc", piece(2, "fg")),
		open(next, "", piece(1, "b"), piece(3, "d")), open(next, "ab", piece(1, "d"), piece(3, "f"), piece(5, "h")), open(next, "a\x00\xff", piece(4, "ghi"), piece(9, "l"), piece(20, x[:9])),
		open(next, x[:24], piece(2, "y"), piece(6, "zz")), open(next, x[:30], piece(1, "z")),
		closing(next, "", 1), closing(next, "", 32), closing(next, "abc", 4), closing(next, x[:31], 1), closing(next, x[:24], 8),
		closing(next, "", 3, piece(1, "bc")), closing(next, "", 5, piece(1, "bc")), closing(next, "a", 10, piece(1, "c"), piece(4, "fg"), piece(9, "k")), closing(next, x[:24], 8, piece(1, "y"), piece(4, "zzzz")),
		closed(next, ""), closed(next, "abc"), closed(next, x[:32]),
	}
}

func goodReceivers() []impl.Receiver {
	var list []impl.Receiver
	for _, next := range receiverPlaces {
		list = append(list, receiversAt(next)...)
	}
	return list
}

// refusedPieces are wrong for any receiver, each for one reason.
func refusedPieces() [][]impl.Piece {
	list := [][]impl.Piece{
		{piece(1, "a"), piece(3, "b"), piece(5, "c"), piece(7, "d")}, {piece(1, "a"), piece(3, "b"), piece(5, "c"), piece(7, "d"), piece(9, "e")},
		{piece(1, "")}, {piece(1, "a"), piece(3, "")}, {piece(2, ""), piece(4, "a")}, {piece(1, "a"), piece(3, ""), piece(5, "b")},
		{piece(2, "ab"), piece(4, "c")}, {piece(2, "ab"), piece(3, "c")}, {piece(2, "ab"), piece(2, "ab")}, {piece(2, "ab"), piece(1, "c")}, {piece(4, "ab"), piece(1, "c")},
		{piece(1, "a"), piece(5, "b"), piece(6, "c")}, {piece(1, "a"), piece(5, "b"), piece(3, "c")}, {piece(1, "abcdef"), piece(3, "c")},
		{piece(31, "ab")}, {piece(32, "a")}, {piece(33, "a")}, {piece(1, manyBytes[:32])}, {piece(1, someBytes(5000, 1))}, {piece(1, "a"), piece(31, "ab")},
	}
	for _, off := range []int{leastInt, leastInt + 1, leastInt + 31, -all, -all + 1, -33, -32, -2, -1, 0, 33, 34, all, all + 1, 1 << 62, mostInt - 32, mostInt - 3, mostInt - 2, mostInt - 1, mostInt} {
		list = append(list, []impl.Piece{piece(off, "abc")}, []impl.Piece{piece(off, "a")}, []impl.Piece{piece(off, manyBytes[:31])})
		if off > 0 {
			list = append(list, []impl.Piece{piece(1, "ab"), piece(off, "c")}, []impl.Piece{piece(1, "ab"), piece(off, "cde")})
		} else {
			list = append(list, []impl.Piece{piece(off, "ab"), piece(5, "c")})
		}
	}
	return list
}

// refusedReceivers have one fault each.
func refusedReceivers() []impl.Receiver {
	x := manyBytes
	var list []impl.Receiver
	for _, next := range noPlaces {
		list = append(list, receiversAt(next)...)
	}
	for _, next := range []int{0, 1000, last - 2, last} {
		for _, size := range []int{33, 34, 64, 1000} {
			list = append(list, open(next, someBytes(size, 1)), closed(next, someBytes(size, 1)))
		}
		for _, held := range refusedPieces() {
			list = append(list, open(next, "", held...))
		}
		for _, fin := range []int{leastInt, leastInt + 1, -all, -all + 5, -33, -3, -2, 0, 33, 34, all, all + 5, mostInt - 1, mostInt} {
			list = append(list, closing(next, "", fin))
			if fin > 0 {
				list = append(list, closing(next, "", fin, piece(1, "bc")))
			}
		}
		list = append(list,
			open(next, x[:29], piece(2, "ab")), open(next, x[:29], piece(3, "a")), open(next, x[:31], piece(1, "a")), open(next, x[:32], piece(1, "a")),
			closing(next, x[:29], 4), closing(next, x[:31], 2), closing(next, x[:32], 1), closing(next, x[:32], 0), closing(next, "abc", 30),
			closing(next, "", 3, piece(1, "bcd")), closing(next, "", 3, piece(3, "d")), closing(next, "", 3, piece(4, "d")), closing(next, "", 1, piece(1, "b")),
			closing(next, "", 8, piece(1, "b"), piece(7, "hi")), closing(next, "", 8, piece(1, "b"), piece(8, "h")),
			impl.Receiver{Next: next, Held: []impl.Piece{piece(1, "a")}, Fin: -1, Done: true},
			impl.Receiver{Next: next, Held: []impl.Piece{piece(1, "")}, Fin: -1, Done: true},
			impl.Receiver{Next: next, Data: "ab", Held: []impl.Piece{piece(1, "a"), piece(3, "b")}, Fin: -1, Done: true},
			impl.Receiver{Next: next, Fin: 1, Done: true}, impl.Receiver{Next: next, Fin: 0, Done: true}, impl.Receiver{Next: next, Fin: -2, Done: true},
			impl.Receiver{Next: next, Data: "ab", Fin: 1, Done: true}, impl.Receiver{Next: next, Data: "ab", Fin: 30, Done: true},
			impl.Receiver{Next: next}, impl.Receiver{Next: next, Data: "ab"},
		)
	}
	return list
}

func TestReceiverLimits(t *testing.T) {
	if impl.MaxIn != 32 || impl.MaxHeld != 3 {
		t.Error("the limits are", impl.MaxIn, impl.MaxHeld)
	}
}

func TestReceiverNew(t *testing.T) {
	for _, c := range []struct{ next, want int }{
		{0, 0}, {1, 1}, {half, half}, {last, last}, {all, 0}, {all + 1, 1}, {-1, last}, {-2, last - 1}, {-half, half}, {-last, 1}, {-all, 0}, {-all - 1, last}, {mostInt, last}, {leastInt, 0}, {leastInt + 1, 1}, {mostInt - 1, last - 1},
	} {
		if got := impl.ReceiverNew(c.next); !sameReceived(got, open(c.want, "")) || !impl.ReceiverOk(got) {
			t.Errorf("ReceiverNew(%d) = %s", c.next, receiverShown(got))
		}
	}
	for _, list := range [][]int{seqPlaces, farInts, noPlaces, receiverPlaces} {
		for _, next := range list {
			if got := impl.ReceiverNew(next); !sameReceived(got, open(exactMod(next, 0, 0), "")) {
				t.Errorf("ReceiverNew(%d) = %s", next, receiverShown(got))
			}
		}
	}
}

func TestWindowOf(t *testing.T) {
	for _, c := range []struct{ size, want int }{{0, 32}, {1, 31}, {2, 30}, {16, 16}, {30, 2}, {31, 1}, {32, 0}, {33, 0}, {34, 0}, {64, 0}, {1000, 0}} {
		data := someBytes(c.size, 1)
		for _, next := range []int{0, last, -1, all, leastInt} {
			checkWindow(t, open(next, data), c.want)
			checkWindow(t, closed(next, data), 0)
			for _, fin := range []int{leastInt, -2, 0, 1, 5, 31, 32, 33, mostInt} {
				checkWindow(t, closing(next, data, fin), c.want)
				checkWindow(t, closing(next, data, fin, piece(1, "abc"), piece(0, ""), piece(mostInt, "z")), c.want)
				checkWindow(t, impl.Receiver{Next: next, Data: data, Fin: fin, Done: true}, 0)
			}
		}
	}
	for size := range 100 {
		checkWindow(t, open(5, someBytes(size, 1)), max(0, 32-size))
	}
}

func TestReceiverOk(t *testing.T) {
	x := manyBytes
	for _, c := range []struct {
		r    impl.Receiver
		want bool
	}{
		{open(0, ""), true}, {open(last, ""), true}, {open(all, ""), false}, {open(-1, ""), false}, {open(0, x[:32]), true}, {open(0, x[:33]), false},
		{impl.Receiver{}, false}, {impl.Receiver{Fin: -1}, true}, {impl.Receiver{Fin: -1, Held: []impl.Piece{}}, true},
		{open(0, "", piece(1, "a"), piece(3, "b"), piece(5, "c")), true}, {open(0, "", piece(1, "a"), piece(3, "b"), piece(5, "c"), piece(7, "d")), false},
		{open(0, "", piece(1, "")), false}, {open(0, "", piece(0, "a")), false}, {open(0, "", piece(-1, "a")), false}, {open(0, "", piece(1, "a")), true}, {open(0, "", piece(-1, "abc")), false},
		{open(0, "", piece(2, "ab"), piece(4, "c")), false}, {open(0, "", piece(2, "ab"), piece(3, "c")), false}, {open(0, "", piece(2, "ab"), piece(5, "c")), true},
		{open(0, "", piece(30, "ab")), true}, {open(0, "", piece(30, "abc")), false}, {open(0, "abc", piece(27, "ab")), true}, {open(0, "abc", piece(27, "abc")), false}, {open(0, "", piece(1, x[:31])), true}, {open(0, "", piece(1, x[:32])), false},
		{open(0, "", piece(mostInt, "a")), false}, {open(0, "", piece(mostInt-2, "abcd")), false}, {open(0, "", piece(1, "a"), piece(mostInt, "a")), false},
		{closing(0, "", -2), false}, {closing(0, "", 0), false}, {closing(0, "", 1), true}, {closing(0, "", 32), true}, {closing(0, "", 33), false}, {closing(0, "abc", 29), true}, {closing(0, "abc", 30), false},
		{closing(0, "", 4, piece(2, "cd")), true}, {closing(0, "", 4, piece(2, "cde")), false}, {closing(0, "", 4, piece(3, "d")), true}, {closing(0, "", 4, piece(4, "e")), false}, {closing(0, "", 32, piece(2, x[:30])), true}, {closing(0, "", 32, piece(2, x[:31])), false},
		{closed(0, ""), true}, {closed(last, "abc"), true}, {closed(0, x[:32]), true}, {closed(0, x[:33]), false}, {closed(all, ""), false},
		{impl.Receiver{Held: []impl.Piece{piece(1, "a")}, Fin: -1, Done: true}, false}, {impl.Receiver{Fin: 1, Done: true}, false}, {impl.Receiver{Fin: 0, Done: true}, false}, {impl.Receiver{Data: "abc", Fin: 2, Done: true}, false},
	} {
		checkReceiverOk(t, c.r, c.want)
	}
	for _, r := range goodReceivers() {
		checkReceiverOk(t, r, true)
	}
	for _, r := range refusedReceivers() {
		checkReceiverOk(t, r, false)
	}
}

func TestReceiverOkOfAllNumbers(t *testing.T) {
	for size := range 36 {
		data := someBytes(size, 2)
		checkReceiverOk(t, open(7, data), size <= 32)
		checkReceiverOk(t, closed(7, data), size <= 32)
		for n := -4; n < 40; n++ {
			window := 32 - size
			checkReceiverOk(t, closing(7, data, n), n == -1 && size <= 32 || n >= 1 && n <= window)
			for length := range 6 {
				ok := n >= 1 && length > 0 && n+length <= window
				checkReceiverOk(t, open(7, data, piece(n, "abcdef"[:length])), ok)
				for fin := -3; fin < 36; fin++ {
					finOk := fin == -1 || fin >= 1 && fin <= window && n+length <= fin
					checkReceiverOk(t, closing(7, data, fin, piece(n, "abcdef"[:length])), ok && finOk)
				}
			}
		}
	}
	for first := -2; first < 9; first++ {
		for second := -2; second < 12; second++ {
			for third := -2; third < 15; third++ {
				ok := first >= 1 && second > first+2 && third > second+1
				checkReceiverOk(t, open(7, "data", piece(first, "ab"), piece(second, "c"), piece(third, "def")), ok)
			}
		}
	}
}

// Text at, before, behind and around the number that is expected next.
func TestArrivedText(t *testing.T) {
	for _, place := range receiverPlaces {
		n := func(k int) int { return exactMod(place, k, 0) }
		r := open(place, "")
		checkArrived(t, r, place, "a", false, open(n(1), "a"))
		checkArrived(t, r, place, "abc", false, open(n(3), "abc"))
		checkArrived(t, r, place, "\x00\xff\x80", false, open(n(3), "\x00\xff\x80"))
		checkNotArrived(t, r, place, "", false)
		for _, off := range []int{-100, -33, -32, -5, -1, 1, 5, 31, 32, 33, 100} {
			checkNotArrived(t, r, n(off), "", false)
		}
		// wholly before Next, and partly
		checkNotArrived(t, r, n(-1), "a", false)
		checkNotArrived(t, r, n(-3), "abc", false)
		checkNotArrived(t, r, n(-5), "abc", false)
		checkArrived(t, r, n(-3), "abcd", false, open(n(1), "d"))
		checkArrived(t, r, n(-2), "abcd", false, open(n(2), "cd"))
		// behind a hole
		checkArrived(t, r, n(1), "b", false, open(place, "", piece(1, "b")))
		checkArrived(t, r, n(5), "fgh", false, open(place, "", piece(5, "fgh")))
		// at the window's end
		checkArrived(t, r, n(31), "z", false, open(place, "", piece(31, "z")))
		checkArrived(t, r, n(31), "zyx", false, open(place, "", piece(31, "z")))
		checkArrived(t, r, n(30), "zyx", false, open(place, "", piece(30, "zy")))
		checkNotArrived(t, r, n(32), "z", false)
		checkNotArrived(t, r, n(33), "zyx", false)
		checkNotArrived(t, r, n(1000), "zyx", false)
		// with bytes that are not taken, so that the window is smaller
		s := open(place, "abc")
		checkArrived(t, s, place, "de", false, open(n(2), "abcde"))
		checkArrived(t, s, n(-3), "xyzde", false, open(n(2), "abcde"))
		checkNotArrived(t, s, n(-3), "xyz", false)
		checkArrived(t, s, n(28), "z", false, open(place, "abc", piece(28, "z")))
		checkArrived(t, s, n(28), "zy", false, open(place, "abc", piece(28, "z")))
		checkNotArrived(t, s, n(29), "z", false)
	}
}

func TestArrivedInFullWindows(t *testing.T) {
	x := manyBytes
	for _, place := range receiverPlaces {
		n := func(k int) int { return exactMod(place, k, 0) }
		checkArrived(t, open(place, x[:30]), place, "yz", false, open(n(2), x[:30]+"yz"))
		checkArrived(t, open(place, x[:30]), place, "yzX", false, open(n(2), x[:30]+"yz"))
		checkArrived(t, open(place, x[:30]), n(-2), "abyzX", false, open(n(2), x[:30]+"yz"))
		checkArrived(t, open(place, x[:30], piece(1, "z")), place, "y", false, open(n(2), x[:30]+"yz"))
		checkArrived(t, open(place, ""), place, x[:32], false, open(n(32), x[:32]))
		checkArrived(t, open(place, ""), place, x[:33], false, open(n(32), x[:32]))
		checkArrived(t, open(place, ""), place, x[:31], false, open(n(31), x[:31]))
		for _, text := range []string{"", "a", "abc", someBytes(100, 1)} {
			for _, off := range []int{-100, -40, -32, -2, -1, 0, 1, 31, 32, 100} {
				checkNotArrived(t, open(place, x[:32]), n(off), text, false)
			}
		}
	}
}

func TestArrivedOfLongTexts(t *testing.T) {
	for _, size := range []int{33, 100, 255, 256, 65535, 65536, 65537, 70000, 1 << 18} {
		text := someBytes(size, 6)
		for _, place := range []int{0, 5, half, last - 7, last} {
			n := func(k int) int { return exactMod(place, k, 0) }
			checkArrived(t, open(place, ""), place, text, false, open(n(32), text[:32]))
			checkArrived(t, open(place, ""), n(-1), text, false, open(n(32), text[1:33]))
			checkArrived(t, open(place, "abc"), n(3), text, false, open(place, "abc", piece(3, text[:26])))
			checkArrived(t, open(place, ""), n(31), text, false, open(place, "", piece(31, text[:1])))
			checkArrived(t, open(place, ""), n(5-size), text, false, open(n(5), text[size-5:]))
			checkArrived(t, open(place, ""), n(5-size), text, true, closed(n(6), text[size-5:]))
			checkArrived(t, open(place, ""), n(32-size), text, false, open(n(32), text[size-32:]))
			checkArrived(t, open(place, ""), n(32-size), text, true, closed(n(33), text[size-32:]))
			checkArrived(t, open(place, ""), n(33-size), text, true, open(n(32), text[size-33:size-1]))
			checkArrived(t, open(place, ""), n(-size), text, true, closed(n(1), ""))
			checkNotArrived(t, open(place, ""), n(-size), text, false)
			checkNotArrived(t, open(place, ""), n(-size-1), text, true)
			checkNotArrived(t, open(place, ""), n(32), text, true)
		}
	}
}

// A number counts modulo 2^32, and one that is half the number space away is in no window.
func TestArrivedOfFarNumbers(t *testing.T) {
	for _, place := range receiverPlaces {
		n := func(k int) int { return exactMod(place, k, 0) }
		for _, add := range []int{all, -all, 2 * all, -7 * all, 1 << 62, -1 << 62, leastInt} {
			checkArrived(t, open(place, ""), place+add, "abc", false, open(n(3), "abc"))
			checkArrived(t, open(place, ""), n(-1)+add, "abc", false, open(n(2), "bc"))
			checkArrived(t, open(place, ""), n(5)+add, "abc", true, closing(place, "", 8, piece(5, "abc")))
			checkArrived(t, open(place, "x"), n(30)+add, "abc", false, open(place, "x", piece(30, "a")))
			checkArrived(t, open(place, ""), place+add, "", true, closed(n(1), ""))
			checkNotArrived(t, open(place, ""), n(32)+add, "abc", false)
		}
		for _, off := range []int{half - 33, half - 32, half - 2, half - 1, half, half + 1, half + 2, half + 31, half + 32, last - 100} {
			for _, seq := range []int{place + off, place - off, n(off), n(-off)} {
				checkNotArrived(t, open(place, ""), seq, "abc", false)
				checkNotArrived(t, open(place, ""), seq, "abc", true)
				checkNotArrived(t, open(place, ""), seq, "", true)
			}
		}
	}
	for _, seq := range farInts {
		for _, add := range []int{-1, 0, 1, 5} {
			next := exactMod(seq, -add, 0)
			want := arrivedIn(open(next, "x"), add+next, "abc", true)
			checkArrived(t, open(next, "x"), seq, "abc", true, want)
		}
	}
}

// What came first stays, whatever comes later.
func TestArrivedAgainWithOtherBytes(t *testing.T) {
	for _, place := range receiverPlaces {
		n := func(k int) int { return exactMod(place, k, 0) }
		r := open(place, "ab", piece(2, "ef"), piece(6, "i"))
		checkNotArrived(t, r, n(2), "XX", false)
		checkNotArrived(t, r, n(3), "X", false)
		checkNotArrived(t, r, n(6), "X", false)
		checkArrived(t, r, n(1), "XXX", false, open(place, "ab", piece(1, "Xef"), piece(6, "i")))
		checkArrived(t, r, n(2), "XXX", false, open(place, "ab", piece(2, "efX"), piece(6, "i")))
		checkArrived(t, r, n(3), "XXX", false, open(place, "ab", piece(2, "efXXi")))
		checkArrived(t, r, n(-2), "XXYYYYYYYYY", false, open(n(9), "abYYefYYiYY"))
		checkArrived(t, r, place, "XX", false, open(n(4), "abXXef", piece(2, "i")))
		checkArrived(t, r, n(5), "XXXX", false, open(place, "ab", piece(2, "ef"), piece(5, "XiXX")))
		checkArrived(t, r, n(1), "XXXXXXXX", true, closing(place, "ab", 9, piece(1, "XefXXiXX")))
		checkArrived(t, open(place, "", piece(1, "\x00")), n(1), "X", false, open(place, "", piece(1, "\x00")))
	}
}

// Bytes at the end that is known and behind it are not kept.
func TestArrivedBehindTheEnd(t *testing.T) {
	x := manyBytes
	for _, place := range receiverPlaces {
		n := func(k int) int { return exactMod(place, k, 0) }
		r := closing(place, "ab", 5)
		for _, fin := range bools {
			checkNotArrived(t, r, n(5), "X", fin)
			checkNotArrived(t, r, n(6), "X", fin)
			checkNotArrived(t, r, n(29), "X", fin)
			checkNotArrived(t, r, n(5), x, fin)
			checkNotArrived(t, r, n(6), x, fin)
			checkArrived(t, r, n(4), "g", fin, closing(place, "ab", 5, piece(4, "g")))
			checkArrived(t, r, n(4), "gX", fin, closing(place, "ab", 5, piece(4, "g")))
			checkArrived(t, r, n(3), "fgXXX", fin, closing(place, "ab", 5, piece(3, "fg")))
			checkArrived(t, r, n(3), "f", fin, closing(place, "ab", 5, piece(3, "f")))
			checkArrived(t, r, place, "cdefg", fin, closed(n(6), "abcdefg"))
			checkArrived(t, r, place, "cdefgX", fin, closed(n(6), "abcdefg"))
			checkArrived(t, r, place, "cdefgXYZ"+x, fin, closed(n(6), "abcdefg"))
			checkArrived(t, r, n(-2), "abcdefgX", fin, closed(n(6), "abcdefg"))
			checkArrived(t, r, place, "cdef", fin, closing(n(4), "abcdef", 1))
			checkNotArrived(t, closing(place, "", 1), n(1), "X", fin)
			checkArrived(t, closing(place, "", 1), place, "aX", fin, closed(n(2), "a"))
			checkNotArrived(t, closing(place, "", 9, piece(1, "a"), piece(3, "b"), piece(5, "c")), n(9), "X", fin)
			checkNotArrived(t, closing(place, "", 9, piece(1, "a"), piece(3, "b"), piece(5, "c")), n(10), "X", fin)
			checkNotArrived(t, closing(place, "", 9, piece(1, "a"), piece(3, "b"), piece(5, "c")), n(8), "XX", fin)
		}
	}
}

func TestArrivedEnd(t *testing.T) {
	x := manyBytes
	for _, place := range receiverPlaces {
		n := func(k int) int { return exactMod(place, k, 0) }
		r := open(place, "")
		checkArrived(t, r, place, "", true, closed(n(1), ""))
		checkArrived(t, r, place, "a", true, closed(n(2), "a"))
		checkArrived(t, r, place, "abc", true, closed(n(4), "abc"))
		checkArrived(t, open(place, "ab"), place, "", true, closed(n(1), "ab"))
		checkArrived(t, open(place, "ab"), place, "cd", true, closed(n(3), "abcd"))
		checkArrived(t, open(place, "ab"), n(-2), "XXcd", true, closed(n(3), "abcd"))
		checkArrived(t, open(place, "ab"), n(-2), "XX", true, closed(n(1), "ab"))
		checkArrived(t, r, n(-3), "XYZ", true, closed(n(1), ""))
		// behind a hole
		checkArrived(t, r, n(1), "", true, closing(place, "", 1))
		checkArrived(t, r, n(1), "b", true, closing(place, "", 2, piece(1, "b")))
		checkArrived(t, r, n(5), "fgh", true, closing(place, "", 8, piece(5, "fgh")))
		// at the window's end, and beyond it
		checkArrived(t, r, n(32), "", true, closing(place, "", 32))
		checkArrived(t, r, n(31), "z", true, closing(place, "", 32, piece(31, "z")))
		checkNotArrived(t, r, n(33), "", true)
		checkArrived(t, r, n(31), "zy", true, open(place, "", piece(31, "z")))
		checkNotArrived(t, r, n(32), "z", true)
		checkArrived(t, open(place, "abc"), n(29), "", true, closing(place, "abc", 29))
		checkNotArrived(t, open(place, "abc"), n(30), "", true)
		checkArrived(t, r, place, x[:32], true, closed(n(33), x[:32]))
		checkArrived(t, r, place, x[:33], true, open(n(32), x[:32]))
		checkArrived(t, open(place, x[:32]), place, "", true, closed(n(1), x[:32]))
		checkArrived(t, open(place, x[:32]), n(-4), "abcd", true, closed(n(1), x[:32]))
		checkNotArrived(t, open(place, x[:32]), place, "a", true)
		checkNotArrived(t, open(place, x[:32]), n(1), "", true)
		// before Next
		checkNotArrived(t, r, n(-1), "", true)
		checkNotArrived(t, r, n(-5), "abcd", true)
		checkNotArrived(t, open(place, "abc"), n(-3), "", true)
		checkNotArrived(t, open(place, "abc"), n(-3), "ab", true)
	}
}

// The end is not taken where a byte is stored behind it.
func TestArrivedEndBesideBytes(t *testing.T) {
	for _, place := range receiverPlaces {
		n := func(k int) int { return exactMod(place, k, 0) }
		r := open(place, "a", piece(2, "de"), piece(6, "h"))
		checkNotArrived(t, r, place, "", true)
		checkNotArrived(t, r, n(1), "", true)
		checkNotArrived(t, r, n(2), "", true)
		checkNotArrived(t, r, n(2), "d", true)
		checkNotArrived(t, r, n(2), "de", true)
		checkNotArrived(t, r, n(6), "", true)
		checkArrived(t, r, place, "b", true, open(n(1), "ab", piece(1, "de"), piece(5, "h")))
		checkArrived(t, r, place, "bc", true, open(n(4), "abcde", piece(2, "h")))
		checkArrived(t, r, n(4), "f", true, open(place, "a", piece(2, "def"), piece(6, "h")))
		checkArrived(t, r, n(4), "fg", true, open(place, "a", piece(2, "defgh")))
		checkArrived(t, r, n(6), "h", true, closing(place, "a", 7, piece(2, "de"), piece(6, "h")))
		checkArrived(t, r, n(7), "", true, closing(place, "a", 7, piece(2, "de"), piece(6, "h")))
		checkArrived(t, r, n(8), "", true, closing(place, "a", 8, piece(2, "de"), piece(6, "h")))
		checkArrived(t, r, n(4), "fgX", true, closing(place, "a", 7, piece(2, "defgh")))
		checkArrived(t, r, place, "bcdefgh", true, closed(n(8), "abcdefgh"))
		checkArrived(t, r, place, "bcdefg", true, open(n(7), "abcdefgh"))
		checkArrived(t, r, n(-1), "X", true, copyReceived(r))
		// an end at 0 counts for the bytes that are stored behind it, too
		checkNotArrived(t, open(place, "", piece(1, "b")), place, "", true)
		checkNotArrived(t, open(place, "", piece(31, "z")), place, "", true)
		checkNotArrived(t, open(place, "", piece(31, "z")), n(31), "", true)
		checkArrived(t, open(place, "", piece(31, "z")), n(32), "", true, closing(place, "", 32, piece(31, "z")))
	}
}

func TestArrivedEndAgain(t *testing.T) {
	for _, place := range receiverPlaces {
		n := func(k int) int { return exactMod(place, k, 0) }
		for _, r := range []impl.Receiver{closing(place, "ab", 5), closing(place, "ab", 5, piece(1, "d")), closing(place, "", 5, piece(1, "d"), piece(3, "fg"))} {
			for _, off := range []int{-1, 0, 1, 4, 5, 6, 20, 29, 30, 31, 32, 100} {
				checkNotArrived(t, r, n(off), "", true)
			}
		}
		r := closing(place, "ab", 5)
		checkArrived(t, r, n(2), "ef", true, closing(place, "ab", 5, piece(2, "ef")))
		checkArrived(t, r, n(2), "efg", true, closing(place, "ab", 5, piece(2, "efg")))
		checkArrived(t, r, n(2), "efgX", true, closing(place, "ab", 5, piece(2, "efg")))
		checkArrived(t, r, place, "cd", true, closing(n(2), "abcd", 3))
		checkNotArrived(t, r, n(-2), "ab", true)
	}
}

// The stream ends with the bytes that come after its end, or with an end that comes
// after the bytes.
func TestArrivedDone(t *testing.T) {
	x := manyBytes
	for _, place := range receiverPlaces {
		n := func(k int) int { return exactMod(place, k, 0) }
		checkArrived(t, closing(place, "", 1), place, "a", false, closed(n(2), "a"))
		checkArrived(t, closing(place, "ab", 3, piece(1, "de")), place, "c", false, closed(n(4), "abcde"))
		checkArrived(t, closing(place, "ab", 4, piece(1, "de")), place, "c", false, closing(n(3), "abcde", 1))
		checkArrived(t, closing(n(3), "abcde", 1), n(3), "f", false, closed(n(5), "abcdef"))
		checkArrived(t, closing(place, "", 32, piece(1, x[1:32])), place, x[:1], false, closed(n(33), x[:32]))
		checkArrived(t, closing(place, x[:24], 8), place, x[24:32], false, closed(n(9), x[:32]))
		checkArrived(t, open(place, "abc"), place, "", true, closed(n(1), "abc"))
		checkArrived(t, open(place, "ab", piece(1, "d")), place, "c", true, open(n(2), "abcd"))
		checkArrived(t, open(n(2), "abcd"), n(2), "", true, closed(n(3), "abcd"))
		checkArrived(t, open(place, "ab", piece(1, "d")), place, "cd", true, closed(n(3), "abcd"))
		checkArrived(t, open(place, "ab", piece(1, "d")), n(1), "d", true, closing(place, "ab", 2, piece(1, "d")))
	}
}

func TestArrivedPieces(t *testing.T) {
	for _, place := range receiverPlaces {
		n := func(k int) int { return exactMod(place, k, 0) }
		r := open(place, "", piece(2, "cd"), piece(7, "hi"), piece(12, "mn"))
		// joined with the one before, behind, both, several
		checkArrived(t, r, n(4), "e", false, open(place, "", piece(2, "cde"), piece(7, "hi"), piece(12, "mn")))
		checkArrived(t, r, n(6), "g", false, open(place, "", piece(2, "cd"), piece(6, "ghi"), piece(12, "mn")))
		checkArrived(t, r, n(1), "b", false, open(place, "", piece(1, "bcd"), piece(7, "hi"), piece(12, "mn")))
		checkArrived(t, r, n(14), "o", false, open(place, "", piece(2, "cd"), piece(7, "hi"), piece(12, "mno")))
		checkArrived(t, r, n(4), "efg", false, open(place, "", piece(2, "cdefghi"), piece(12, "mn")))
		checkArrived(t, r, n(9), "jkl", false, open(place, "", piece(2, "cd"), piece(7, "hijklmn")))
		checkArrived(t, r, n(4), "efghijkl", false, open(place, "", piece(2, "cdefghijklmn")))
		checkArrived(t, r, n(1), "bcdefghijklmno", false, open(place, "", piece(1, "bcdefghijklmno")))
		checkArrived(t, open(place, "", piece(2, "cd"), piece(5, "f")), n(4), "e", false, open(place, "", piece(2, "cdef")))
		// with bytes in order
		checkArrived(t, r, place, "a", false, open(n(1), "a", piece(1, "cd"), piece(6, "hi"), piece(11, "mn")))
		checkArrived(t, r, place, "ab", false, open(n(4), "abcd", piece(3, "hi"), piece(8, "mn")))
		checkArrived(t, r, place, "abcdefg", false, open(n(9), "abcdefghi", piece(3, "mn")))
		checkArrived(t, r, place, "abcdefghijkl", false, open(n(14), "abcdefghijklmn"))
		checkArrived(t, closing(place, "", 20, r.Held...), place, "ab", false, closing(n(4), "abcd", 16, piece(3, "hi"), piece(8, "mn")))
		checkArrived(t, closing(place, "", 14, r.Held...), place, "abcdef", false, closing(n(6), "abcdef", 8, piece(1, "hi"), piece(6, "mn")))
		checkArrived(t, closing(place, "", 14, r.Held...), place, "abcdefghijkl", false, closed(n(15), "abcdefghijklmn"))
		checkArrived(t, open(place, "", piece(1, "b")), n(3), "d", false, open(place, "", piece(1, "b"), piece(3, "d")))
		checkArrived(t, open(place, "", piece(3, "d")), n(1), "b", false, open(place, "", piece(1, "b"), piece(3, "d")))
		checkArrived(t, open(place, "", piece(1, "b"), piece(5, "f")), n(3), "d", false, open(place, "", piece(1, "b"), piece(3, "d"), piece(5, "f")))
	}
}

// A fourth piece is refused with all that comes with it.
func TestArrivedFourthPiece(t *testing.T) {
	for _, place := range receiverPlaces {
		n := func(k int) int { return exactMod(place, k, 0) }
		r := open(place, "a", piece(3, "e"), piece(6, "h"), piece(10, "l"))
		for _, fin := range bools {
			checkNotArrived(t, r, n(1), "c", fin)
			checkNotArrived(t, r, n(8), "j", fin)
			checkNotArrived(t, r, n(12), "n", fin)
			checkNotArrived(t, r, n(12), "nop", fin)
			checkNotArrived(t, r, n(30), "zzz", fin)
			checkNotArrived(t, r, n(30), "z", fin)
			checkNotArrived(t, closing(place, "a", 14, r.Held...), n(12), "nop", fin)
			checkNotArrived(t, closing(place, "a", 14, r.Held...), n(1), "c", fin)
		}
		checkArrived(t, r, n(11), "", true, closing(place, "a", 11, r.Held...))
		checkArrived(t, r, n(31), "", true, closing(place, "a", 31, r.Held...))
		checkArrived(t, r, n(4), "fg", false, open(place, "a", piece(3, "efgh"), piece(10, "l")))
		checkArrived(t, r, n(11), "mno", true, closing(place, "a", 14, piece(3, "e"), piece(6, "h"), piece(10, "lmno")))
		checkArrived(t, r, n(7), "ijk", false, open(place, "a", piece(3, "e"), piece(6, "hijkl")))
		checkArrived(t, r, n(1), "cd", false, open(place, "a", piece(1, "cde"), piece(6, "h"), piece(10, "l")))
		checkArrived(t, r, place, "b", false, open(n(1), "ab", piece(2, "e"), piece(5, "h"), piece(9, "l")))
		checkArrived(t, r, place, "bcd", false, open(n(4), "abcde", piece(2, "h"), piece(6, "l")))
		checkArrived(t, open(n(4), "abcde", piece(2, "h"), piece(6, "l")), n(12), "n", true, closing(n(4), "abcde", 9, piece(2, "h"), piece(6, "l"), piece(8, "n")))
	}
}

func TestArrivedOfRefusedReceivers(t *testing.T) {
	for _, r := range refusedReceivers() {
		for _, off := range []int{-2, 0, 1, 2, 5, 31} {
			for _, fin := range bools {
				checkNotArrived(t, r, r.Next+off, "", fin)
				checkNotArrived(t, r, r.Next+off, "abc", fin)
			}
		}
	}
}

func TestArrivedOfClosedReceivers(t *testing.T) {
	for _, place := range receiverPlaces {
		for _, r := range []impl.Receiver{closed(place, ""), closed(place, "abc"), closed(place, manyBytes[:32])} {
			for off := -40; off < 40; off++ {
				for _, fin := range bools {
					checkNotArrived(t, r, exactMod(place, off, 0), "", fin)
					checkNotArrived(t, r, exactMod(place, off, 0), "abc", fin)
					checkNotArrived(t, r, exactMod(place, off, 0), manyBytes, fin)
				}
			}
		}
	}
}

// All texts with all offsets, for the receivers of all kinds.
func TestArrivedOfAllOffsets(t *testing.T) {
	for _, place := range []int{5, last - 10} {
		for _, r := range receiversAt(place) {
			for off := -36; off < 36; off++ {
				for _, size := range []int{0, 1, 2, 3, 7, 31, 32, 33, 70} {
					for _, fin := range bools {
						seq := exactMod(place, off, 0)
						text := strings.Repeat("ABCDEFG", 10)[:size]
						checkArrived(t, r, seq, text, fin, arrivedIn(r, seq, text, fin))
					}
				}
			}
		}
	}
}

func TestTakenIn(t *testing.T) {
	x := manyBytes
	for _, place := range receiverPlaces {
		for _, n := range []int{leastInt, leastInt + 1, -all, -32, -2, -1, 0} {
			for _, r := range receiversAt(place) {
				checkTakenIn(t, r, n, copyReceived(r), "")
			}
		}
		held := []impl.Piece{piece(2, "gh"), piece(6, "k")}
		checkTakenIn(t, open(place, "abcd", held...), 1, open(place, "bcd", held...), "a")
		checkTakenIn(t, open(place, "abcd", held...), 3, open(place, "d", held...), "abc")
		for _, n := range []int{4, 5, 32, 33, all, all + 1, mostInt - 1, mostInt} {
			checkTakenIn(t, open(place, "abcd", held...), n, open(place, "", held...), "abcd")
			checkTakenIn(t, closing(place, "abcd", 9, held...), n, closing(place, "", 9, held...), "abcd")
			checkTakenIn(t, closed(place, "abcd"), n, closed(place, ""), "abcd")
			checkTakenIn(t, open(place, ""), n, open(place, ""), "")
			checkTakenIn(t, open(place, "", held...), n, open(place, "", held...), "")
			checkTakenIn(t, closed(place, ""), n, closed(place, ""), "")
		}
		checkTakenIn(t, closing(place, "abcd", 9, held...), 2, closing(place, "cd", 9, held...), "ab")
		checkTakenIn(t, closed(place, "abcd"), 2, closed(place, "cd"), "ab")
		checkTakenIn(t, open(place, "a\x00\xff"), 2, open(place, "\xff"), "a\x00")
		checkTakenIn(t, open(place, x[:32]), 31, open(place, x[31:32]), x[:31])
		checkTakenIn(t, open(place, x[:32]), 32, open(place, ""), x[:32])
		checkTakenIn(t, open(place, x[:32]), 33, open(place, ""), x[:32])
	}
}

// What is taken opens the window again, by as many numbers.
func TestTakenInOpensTheWindow(t *testing.T) {
	for _, place := range receiverPlaces {
		n := func(k int) int { return exactMod(place, k, 0) }
		for size := range 33 {
			for taken := -1; taken < 34; taken++ {
				r, text := impl.TakenIn(open(place, manyBytes[:size]), taken)
				left := size - min(max(taken, 0), size)
				if len(text) != size-left || impl.WindowOf(r) != 32-left {
					t.Errorf("%d of %d bytes: %q, and a window of %d", taken, size, text, impl.WindowOf(r))
				}
				checkArrived(t, r, n(31-left), "z", false, arrivedIn(r, n(31-left), "z", false))
				checkNotArrived(t, r, n(32-left), "z", false)
				closedOne, _ := impl.TakenIn(closed(place, manyBytes[:size]), taken)
				checkWindow(t, closedOne, 0)
			}
		}
	}
}

func TestTakenInOfRefusedReceivers(t *testing.T) {
	for _, r := range refusedReceivers() {
		for _, n := range []int{leastInt, -1, 0, 1, 2, 32, 33, 1000, mostInt} {
			checkTakenIn(t, r, n, copyReceived(r), "")
		}
	}
}

func TestSameReceiver(t *testing.T) {
	held := []impl.Piece{piece(2, "ab"), piece(6, "c")}
	r := closing(7, "data", 9, held...)
	checkSameReceiver(t, r, copyReceived(r), true)
	for _, other := range []impl.Receiver{
		closing(8, "data", 9, held...), closing(7+all, "data", 9, held...), closing(-7, "data", 9, held...),
		closing(7, "dat", 9, held...), closing(7, "dats", 9, held...), closing(7, "data\x00", 9, held...), closing(7, "", 9, held...),
		closing(7, "data", 10, held...), closing(7, "data", -1, held...), closing(7, "data", 9+all, held...), closing(7, "data", -9, held...),
		{Next: 7, Data: "data", Held: held, Fin: 9, Done: true},
		closing(7, "data", 9), closing(7, "data", 9, held[0]), closing(7, "data", 9, held[1]), closing(7, "data", 9, held[1], held[0]),
		closing(7, "data", 9, held[0], held[1], piece(8, "d")), closing(7, "data", 9, held[0], held[1], held[1]), closing(7, "data", 9, held[0], held[1], piece(0, "")),
		closing(7, "data", 9, piece(1, "ab"), held[1]), closing(7, "data", 9, piece(2, "ax"), held[1]), closing(7, "data", 9, piece(2, "abc"), held[1]),
		closing(7, "data", 9, held[0], piece(7, "c")), closing(7, "data", 9, held[0], piece(6, "d")), closing(7, "data", 9, held[0], piece(6, "")), closing(7, "data", 9, held[0], piece(6+all, "c")),
	} {
		checkSameReceiver(t, r, other, false)
		checkSameReceiver(t, other, copyReceived(other), true)
	}
	none := impl.Receiver{Next: 7, Data: "data", Held: []impl.Piece{}, Fin: 9}
	checkSameReceiver(t, none, closing(7, "data", 9), true)
	checkSameReceiver(t, none, r, false)
	checkSameReceiver(t, impl.Receiver{}, impl.Receiver{Held: make([]impl.Piece, 0, 5)}, true)
	checkSameReceiver(t, impl.Receiver{}, impl.Receiver{Held: make([]impl.Piece, 1)}, false)
	list := slices.Concat(receiversAt(9), receiversAt(10), receiversAt(-1), refusedReceivers()[:200])
	for i, a := range list {
		for _, b := range list[i:] {
			checkSameReceiver(t, a, b, sameReceived(a, b))
		}
	}
}

func TestReceiverOfConfusedNumbers(t *testing.T) {
	x := manyBytes
	// an offset from Next, and a sequence number
	checkArrived(t, open(3, ""), 5, "ab", false, open(3, "", piece(2, "ab")))
	checkArrived(t, open(3, ""), 3, "ab", true, closed(6, "ab"))
	checkArrived(t, open(3, ""), 5, "ab", true, closing(3, "", 4, piece(2, "ab")))
	checkArrived(t, closing(3, "", 4), 4, "abcdef", false, closing(3, "", 4, piece(1, "abc")))
	checkArrived(t, closing(100, "", 4, piece(2, "cd")), 100, "ab", false, closed(105, "abcd"))
	// the window's end, and Fin
	checkArrived(t, closing(50, "", 6), 54, "efgh", false, closing(50, "", 6, piece(4, "ef")))
	checkArrived(t, closing(50, x[:20], 12), 60, "abcd", false, closing(50, x[:20], 12, piece(10, "ab")))
	checkNotArrived(t, closing(50, "", 6), 82, "", true)
	checkWindow(t, closing(50, "abc", 6), 29)
	// the end of the text, and the last byte that is stored
	checkArrived(t, open(50, ""), 80, "abc", true, open(50, "", piece(30, "ab")))
	checkArrived(t, open(50, "", piece(4, "ef")), 51, "bc", true, open(50, "", piece(1, "bc"), piece(4, "ef")))
	checkArrived(t, open(50, "", piece(4, "ef")), 54, "XX", true, closing(50, "", 6, piece(4, "ef")))
	// the end at the window's end, and beyond it
	checkArrived(t, open(50, ""), 80, "ab", true, closing(50, "", 32, piece(30, "ab")))
	checkArrived(t, open(50, x[:30]), 50, "ab", true, closed(53, x[:30]+"ab"))
	checkArrived(t, open(50, x[:30]), 50, "abc", true, open(52, x[:30]+"ab"))
	// the window, and bytes that were not taken yet
	checkNotArrived(t, open(50, x[:30]), 52, "ab", false)
	checkArrived(t, open(50, x[:29]), 52, "ab", false, open(50, x[:29], piece(2, "a")))
	checkWindow(t, open(50, "", piece(1, "abc")), 32)
}

const (
	lowerCase = "abcdefghijklmnopqrstuvwxyz"
	upperCase = "ABCDEFGHIJKLMNOPQRSTUVWXYZ"
)

// reached collects the receivers that can be reached from one by texts that begin
// and end near Next, in upper and in lower case, and by taking bytes.
type reached struct {
	t          *testing.T
	start      int
	low, high  int
	size       int
	cases      int
	take       []int
	known      map[string]bool
	list       []impl.Receiver
	ended      int
	fullPieces int
}

func (x *reached) add(r impl.Receiver) {
	name := fmt.Sprint(r)
	if x.known[name] {
		return
	}
	x.known[name] = true
	x.list = append(x.list, copyReceived(r))
	x.ended += numberIf(r.Done, 1)
	x.fullPieces += numberIf(len(r.Held) == 3, 1)
	checkReceiverOk(x.t, r, true)
}

// from adds what r becomes, after comparing it with what it should become.
func (x *reached) from(r impl.Receiver) {
	for letters := range x.cases {
		alphabet := []string{lowerCase, upperCase}[letters]
		for off := x.low; off <= x.high; off++ {
			for size := range x.size + 1 {
				for _, fin := range bools {
					at := r.Next + off
					text := alphabet[exactMod(at, 5, x.start)%20:][:size]
					want := arrivedIn(r, at, text, fin)
					checkArrived(x.t, r, at, text, fin, want)
					x.add(want)
				}
			}
		}
	}
	for _, n := range x.take {
		want, text := takenOut(r, n)
		checkTakenIn(x.t, r, n, want, text)
		x.add(want)
	}
}

func (x *reached) steps(start impl.Receiver, steps int) {
	x.known, x.start = map[string]bool{}, start.Next
	x.add(start)
	done := 0
	for range steps {
		for _, r := range x.list[done:] {
			done++
			x.from(r)
		}
		if done == len(x.list) {
			return
		}
	}
}

func TestReceiversReached(t *testing.T) {
	small := reached{t: t, low: -2, high: 6, size: 5, cases: 2}
	small.steps(open(last-2, manyBytes[:27]), 20)
	pieces := reached{t: t, low: -1, high: 9, size: 2, cases: 1}
	pieces.steps(open(last-5, manyBytes[:23]), 20)
	taking := reached{t: t, low: -1, high: 3, size: 3, cases: 2, take: []int{-1, 0, 1, 2, 40}}
	taking.steps(open(last, manyBytes[:30]), 2)
	whole := reached{t: t, low: -3, high: 33, size: 4, cases: 1, take: []int{1}}
	whole.steps(open(last-1, ""), 2)
	if len(small.list) < 500 || small.ended < 50 || pieces.fullPieces < 200 || taking.ended < 20 || len(whole.list) < 10000 {
		t.Error("reached", len(small.list), small.ended, pieces.fullPieces, taking.ended, len(whole.list))
	}
}

// stream is a receiver to which the parts of one text are sent, and what was taken
// from it until now.
type stream struct {
	r     impl.Receiver
	text  string
	start int
	taken string
}

// holds reports whether what was taken, and is to be taken, is the text's beginning.
func (x *stream) holds() bool {
	have := x.taken + x.r.Data
	if !impl.ReceiverOk(x.r) || !validReceiver(x.r) || !strings.HasPrefix(x.text, have) {
		return false
	}
	if x.r.Done && have != x.text || x.r.Fin != -1 && len(have)+x.r.Fin != len(x.text) {
		return false
	}
	for _, p := range x.r.Held {
		if !strings.HasPrefix(x.text[len(have)+p.Off:], p.Text) {
			return false
		}
	}
	return x.r.Next == exactMod(x.start, len(have)+numberIf(x.r.Done, 1), 0)
}

// arrive sends the part of the text from from to to, and bytes behind the end if the
// receiver knows the end. It reports whether Next advanced as Data did.
func (x *stream) arrive(from, to int, fin bool, behind string) bool {
	from = min(max(from, 0), len(x.text))
	to = min(max(to, from), len(x.text))
	text := x.text[from:to]
	knows := x.r.Fin != -1 || x.r.Done
	if to == len(x.text) && knows {
		text += behind
	}
	// An end behind the true one is nothing that one stream has, unless it is known.
	fin = fin && (to == len(x.text) || knows)
	before := x.r
	x.r = impl.Arrived(before, exactMod(x.start, from, 0), text, fin)
	joined := len(x.r.Data) - len(before.Data)
	if !before.Done && x.r.Done {
		joined++
	}
	return exactDiff(x.r.Next, before.Next) == joined && joined >= 0
}

func (x *stream) take(n int) {
	r, text := impl.TakenIn(x.r, n)
	x.r, x.taken = r, x.taken+text
}

// finish sends everything again until it is stored.
func (x *stream) finish(t *testing.T, step int) {
	t.Helper()
	for round := 0; !x.r.Done && round < 1000; round++ {
		have := len(x.taken) + len(x.r.Data)
		if !x.arrive(have-3, have+step, true, "") || !x.holds() {
			t.Fatalf("at the end: %s", receiverShown(x.r))
		}
		if round%3 > 0 {
			x.take(step + 2)
		}
	}
	x.take(32)
	if !x.r.Done || x.taken != x.text || !x.holds() || x.r.Data != "" {
		t.Errorf("%d bytes of %d were taken from %s", len(x.taken), len(x.text), receiverShown(x.r))
	}
}

// Parts of one stream arrive in any order and again and again.
func TestTakenIsOnePrefix(t *testing.T) {
	whole, full, behind := 0, 0, 0
	for run := range 400 {
		start := receiverPlaces[run%len(receiverPlaces)]
		x := stream{r: impl.ReceiverNew(start), text: someBytes(run%9*80+run%7, run), start: start}
		for step := range 300 {
			draw := drawnNumber(run*1000 + step + 7)
			have := len(x.taken) + len(x.r.Data)
			from := have + draw%60 - 20
			if draw>>8%4 == 0 {
				from = have - draw>>10%5
			}
			ok := true
			switch draw >> 40 % 8 {
			case 0, 1:
				x.take(draw>>20%12 - 1)
			case 2:
				// the end by itself, or with little before it
				ok = x.arrive(len(x.text)-draw>>20%3, len(x.text), draw>>30%16 == 0, "")
			case 3:
				ok = x.arrive(from, from+draw>>20%80, draw>>30%2 > 0, someBytes(draw>>32%40, step))
			default:
				ok = x.arrive(from, from+draw>>20%9, draw>>30%2 > 0, someBytes(draw>>32%5, step))
			}
			if !ok || !x.holds() {
				t.Fatalf("run %d, step %d: %s", run, step, receiverShown(x.r))
			}
			full += numberIf(len(x.r.Held) == 3, 1)
			behind += numberIf(x.r.Fin != -1, 1)
		}
		whole += numberIf(x.r.Done, 1)
		x.finish(t, run%11+1)
	}
	if whole < 100 || whole > 300 || full < 1000 || behind < 500 {
		t.Error(whole, "streams ended before they were sent again,", full, "times there were three pieces, and", behind, "times the end was known")
	}
}

// checkReceiverCalls checks that all functions answer what one byte after the other asks.
func checkReceiverCalls(t *testing.T, r impl.Receiver, seq int, text string, fin bool, n int) {
	t.Helper()
	checkReceiverOk(t, r, validReceiver(r))
	checkWindow(t, r, max(0, numberIf(!r.Done, 32-len(r.Data))))
	checkArrived(t, r, seq, text, fin, arrivedIn(r, seq, text, fin))
	want, taken := takenOut(r, n)
	checkTakenIn(t, r, n, want, taken)
	checkSameReceiver(t, r, copyReceived(r), true)
}

func TestReceiverIsTotal(t *testing.T) {
	for _, a := range farInts {
		for _, b := range farInts {
			for _, done := range bools {
				r := impl.Receiver{Next: a, Data: "data", Held: []impl.Piece{piece(b, "ab")}, Fin: -1, Done: done}
				checkReceiverCalls(t, r, b, "xyz", true, b)
				r.Next = 1000
				checkReceiverCalls(t, r, a, "xyz", true, a)
				r.Fin = a
				checkReceiverCalls(t, r, b, "xyz", true, a)
				r.Held = []impl.Piece{piece(a, "ab"), piece(b, "c")}
				checkReceiverCalls(t, r, a, "xyz", false, b)
				r.Held[1].Text = ""
				checkReceiverCalls(t, r, b, "", true, b)
				r.Held, r.Fin = nil, b
				checkReceiverCalls(t, r, a, "xyz", true, a)
			}
		}
	}
	for _, size := range []int{0, 1, 2, 3, 4, 5, 31, 32, 33, 34, 100, 1000} {
		held := make([]impl.Piece, size)
		checkReceiverCalls(t, open(9, "", held...), 9, "abc", true, 2)
		for i := range held {
			held[i] = piece(1+2*i, "a")
		}
		checkReceiverCalls(t, open(9, "", held...), 9, "abc", true, 2)
		checkReceiverCalls(t, open(9, someBytes(size, 1), piece(1, someBytes(size, 2))), 9, someBytes(size, 3), true, size)
	}
}

// someReceiver draws receivers, most of them valid.
func someReceiver(seed int) impl.Receiver {
	draw := drawnNumber(seed + 1<<21)
	r := open(receiverPlaces[draw%len(receiverPlaces)], someBytes(draw>>8%33*(draw>>16%3)/2, seed))
	off := 0
	for i := range draw >> 20 % 5 {
		off += 1 + draw>>(24+2*i)%7
		size := 1 + draw>>(34+i)%4
		r.Held = append(r.Held, piece(off, someBytes(size, i)))
		off += size
	}
	if draw>>45%4 == 0 {
		r.Fin = off + draw>>48%6
	}
	switch draw >> 52 % 24 {
	case 0:
		r.Next = noPlaces[draw%len(noPlaces)]
	case 1:
		r.Fin -= draw >> 48 % 3
	case 2:
		r.Held = append(r.Held, piece(off, "x"))
	case 3, 4, 5:
		r.Done = true
	case 6, 7, 8:
		r = closed(r.Next, r.Data)
	}
	return r
}

func TestReceiverOfDrawnArguments(t *testing.T) {
	valid := 0
	for seed := range 20000 {
		r := someReceiver(seed)
		draw := drawnNumber(seed + 1<<22)
		valid += numberIf(validReceiver(r), 1)
		seq := exactMod(r.Next, draw%48-8, 0)
		checkReceiverCalls(t, r, seq, someBytes(draw>>16%12, seed%50), draw>>30%2 > 0, draw>>32%20-2)
	}
	if valid < 8000 || valid > 18000 {
		t.Error(valid, "valid receivers")
	}
}

// pieceGuard is in no list that a function answers.
var pieceGuard = []impl.Piece{piece(-77, "guard"), piece(3, "guards"), piece(-78, "")}

func TestReceiverOwnsItsMemory(t *testing.T) {
	calls := map[string]func(r impl.Receiver) impl.Receiver{
		"bytes in order":        func(r impl.Receiver) impl.Receiver { return impl.Arrived(r, r.Next, "XY", false) },
		"bytes behind":          func(r impl.Receiver) impl.Receiver { return impl.Arrived(r, r.Next+13, "XY", false) },
		"bytes known":           func(r impl.Receiver) impl.Receiver { return impl.Arrived(r, r.Next-1, "X", false) },
		"bytes between":         func(r impl.Receiver) impl.Receiver { return impl.Arrived(r, r.Next+4, "X", false) },
		"no bytes":              func(r impl.Receiver) impl.Receiver { return impl.Arrived(r, r.Next, "", false) },
		"bytes beyond":          func(r impl.Receiver) impl.Receiver { return impl.Arrived(r, r.Next+100, "XY", false) },
		"an end":                func(r impl.Receiver) impl.Receiver { return impl.Arrived(r, r.Next+12, "", true) },
		"all":                   func(r impl.Receiver) impl.Receiver { return impl.Arrived(r, r.Next, manyBytes[:12], true) },
		"taken none":            func(r impl.Receiver) impl.Receiver { r, _ = impl.TakenIn(r, 0); return r },
		"taken some":            func(r impl.Receiver) impl.Receiver { r, _ = impl.TakenIn(r, 2); return r },
		"taken all":             func(r impl.Receiver) impl.Receiver { r, _ = impl.TakenIn(r, 99); return r },
		"refused bytes":         func(r impl.Receiver) impl.Receiver { r.Next = -1; return impl.Arrived(r, r.Next, "XY", true) },
		"refused taken":         func(r impl.Receiver) impl.Receiver { r.Next = -1; r, _ = impl.TakenIn(r, 2); return r },
		"bytes with Done":       func(r impl.Receiver) impl.Receiver { r.Done = true; return impl.Arrived(r, r.Next, "XY", true) },
		"bytes with Fin unfit":  func(r impl.Receiver) impl.Receiver { r.Fin = 1; return impl.Arrived(r, r.Next, "XY", true) },
		"bytes with Fin known":  func(r impl.Receiver) impl.Receiver { r.Fin = 20; return impl.Arrived(r, r.Next, "XY", true) },
		"taken with Fin known":  func(r impl.Receiver) impl.Receiver { r.Fin = 20; r, _ = impl.TakenIn(r, 2); return r },
		"a piece and what ends": func(r impl.Receiver) impl.Receiver { return impl.Arrived(r, r.Next+16, "XYZ", true) },
	}
	lists := [][]impl.Piece{
		nil, {piece(2, "ab")}, {piece(2, "ab"), piece(5, "c")}, {piece(2, "ab"), piece(5, "c"), piece(9, "de")},
		{piece(2, "ab"), piece(5, "c"), piece(9, "de"), piece(12, "f")}, {piece(0, "")}, {piece(5, "ab"), piece(5, "ab")},
	}
	for name, call := range calls {
		for _, held := range lists {
			checkOwnMemory(t, name, held, pieceGuard, func(list []impl.Piece) []impl.Piece {
				return call(open(1000, "data", list...)).Held
			})
		}
	}
}

// The functions that only look at a receiver change nothing, nor what is beside its pieces.
func TestReceiverIsLookedAt(t *testing.T) {
	for _, r := range slices.Concat(goodReceivers()[:60], refusedReceivers()) {
		held, kept := guardedBy(r.Held, pieceGuard)
		given := r
		given.Held = held
		impl.ReceiverOk(given)
		impl.WindowOf(given)
		impl.SameReceiver(given, given)
		if !kept() {
			t.Errorf("a function changed %s", receiverShown(r))
		}
	}
	if first, second := impl.ReceiverNew(5), impl.ReceiverNew(5); !sameReceived(first, second) {
		t.Error("ReceiverNew answers two receivers")
	}
}

func TestReceiverRepeats(t *testing.T) {
	for seed := range 2000 {
		r := someReceiver(seed)
		seq := exactMod(r.Next, seed%9-2, 0)
		first := impl.Arrived(r, seq, "some text", seed%2 > 0)
		kept := copyReceived(first)
		taken, text := impl.TakenIn(r, 3)
		keptTaken := copyReceived(taken)
		checkArrived(t, r, seq, "some text", seed%2 > 0, kept)
		checkTakenIn(t, r, 3, keptTaken, text)
		if !sameReceived(first, kept) || !sameReceived(taken, keptTaken) {
			t.Errorf("from %s, a second call changed what the first answered", receiverShown(r))
		}
	}
}

func TestReceiverKeepsNothing(t *testing.T) {
	checkAtOnce(t, func(worker int, faults map[string]int) {
		for seed := range 2000 {
			r := someReceiver(worker*2000 + seed)
			count := func(name string, right bool) {
				if !right {
					faults[name]++
				}
			}
			seq := exactMod(r.Next, seed%9-2, 0)
			count("Arrived", sameReceived(impl.Arrived(r, seq, "some text", seed%2 > 0), arrivedIn(r, seq, "some text", seed%2 > 0)))
			want, text := takenOut(r, 3)
			got, taken := impl.TakenIn(r, 3)
			count("TakenIn", sameReceived(got, want) && taken == text)
			count("ReceiverOk", impl.ReceiverOk(r) == validReceiver(r))
			count("WindowOf", impl.WindowOf(r) == numberIf(!r.Done, 32-len(r.Data)))
			count("SameReceiver", impl.SameReceiver(r, copyReceived(r)))
			count("ReceiverNew", sameReceived(impl.ReceiverNew(seq-all), open(seq, "")))
		}
	})
}
