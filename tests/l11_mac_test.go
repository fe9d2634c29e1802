package tests

import (
	"fmt"
	"math"
	"slices"
	"strings"
	"testing"

	"loop.example/g00504/impl"
)

// The limits of tables and tags, as numbers of their own.
const (
	mostRows = 64
	tags     = 1 << 24
	mostTag  = tags - 1
)

// tagValues are the values that are tags, at both ends.
var tagValues = []int{0, 1, 2, 255, 256, 65535, 65536, 1<<23 - 1, 1 << 23, mostTag - 1, mostTag}

// noTagValues are values that are no tags, with those at both ends of all of
// them and those that have the lowest bits of a tag.
var noTagValues = []int{
	math.MinInt, math.MinInt + 1, math.MinInt + tags, -1 << 32, -1<<32 + 5, math.MinInt32, -2*tags - 1, -2 * tags, -tags - 1, -tags, -tags + 1, -mostTag + 1, -65536, -2, -1,
	tags, tags + 1, tags + 5, 2*tags - 1, 2 * tags, math.MaxInt32, 1 << 31, math.MaxUint32, 1 << 32, 1<<32 + 5, 1 << 48, 1 << 62, math.MaxInt - mostTag, math.MaxInt - 1, math.MaxInt,
}

// confusedInputs are all different, but by little: one byte, its case, a zero
// byte, the length, the order of the bytes, or what they are as runes.
var confusedInputs = []string{
	"", "\x00", "\x00\x00", "\x00\x00\x00", "\x01", "\x00\x01", "\x01\x00", "\x7f", "\x80", "\xfe", "\xff", "\xff\x00", "\x00\xff", "\xff\xff",
	" ", "  ", "a", "a ", " a", "a\n", "\na", "A", "b", "ab", "ba", "aB", "Ab", "AB", "a\x00", "\x00a", "a\x00b", "ab\x00", "ab\x00\x00", "\x00ab", "abc", "abd", "bbc", "acb", "cba", "aab", "abb",
	"0", "00", "-0", "1", "01", "10", "1.0", "nil", "true", "\"\"", "''",
	"\u00e9", "e\u0301", "\u0065", "\u00c9", "\ufffd", "\xef\xbf", "\xef\xbf\xbe", "\xc3", "\xc3\xa9\x00", "\u212a", "k", "K", "\u0131", "i", "I", "\u00df", "ss",
}

func tableOf(rows ...impl.MacRow) impl.Mac { return impl.Mac{Use: true, Rows: rows} }

func rowOf(input string, value int) impl.MacRow { return impl.MacRow{Input: input, Value: value} }

// rowsOf returns n valid rows.
func rowsOf(n int) []impl.MacRow {
	var rows []impl.MacRow
	for i := range n {
		rows = append(rows, rowOf(fmt.Sprintf("row %d", i), someInt(i)&mostTag))
	}
	return rows
}

func withRow(rows []impl.MacRow, at int, row impl.MacRow) []impl.MacRow {
	list := slices.Clone(rows)
	list[at] = row
	return list
}

func withInput(rows []impl.MacRow, at int, input string) []impl.MacRow {
	return withRow(rows, at, rowOf(input, rows[at].Value))
}

func withValue(rows []impl.MacRow, at int, value int) []impl.MacRow {
	return withRow(rows, at, rowOf(rows[at].Input, value))
}

// fullInput returns the 17 bytes that a cookie's tag is made of.
func fullInput(ip, port, my, seq, epoch, i int) string {
	return wideBytes(ip, 4) + wideBytes(port, 2) + wideBytes(my, 2) + wideBytes(seq, 4) + wideBytes(epoch, 4) + wideBytes(i, 1)
}

func validMac(m impl.Mac) bool {
	if !m.Use {
		return len(m.Rows) < 1
	}
	inputs := map[string]bool{}
	for _, row := range m.Rows {
		if inputs[row.Input] || row.Value < 0 || row.Value > mostTag {
			return false
		}
		inputs[row.Input] = true
	}
	return m.K == 0 && m.L == 0 && len(m.Rows) < mostRows+1
}

// tagOf looks through the rows one by one.
func tagOf(m impl.Mac, input string) int {
	if !m.Use {
		return int(hashOf(m.K, m.L, input) % tags)
	}
	for i := range m.Rows {
		if m.Rows[i].Input == input {
			return (m.Rows[i].Value%tags + tags) % tags
		}
	}
	return 0
}

func equalMacs(a, b impl.Mac) bool {
	if a.Use != b.Use || a.K != b.K || a.L != b.L || len(a.Rows) != len(b.Rows) {
		return false
	}
	for i := range a.Rows {
		if a.Rows[i] != b.Rows[i] {
			return false
		}
	}
	return true
}

func copiedMac(m impl.Mac) impl.Mac {
	rows := make([]impl.MacRow, len(m.Rows))
	for i, row := range m.Rows {
		rows[i] = rowOf(strings.Clone(row.Input), row.Value)
	}
	m.Rows = rows
	return m
}

// guarded returns a copy of rows with unused capacity, and a function that
// reports whether all memory around it is as it was.
func guarded(rows []impl.MacRow) ([]impl.MacRow, func() bool) {
	return guardedBy(rows, []impl.MacRow{rowOf("guard", 77), rowOf("", -7), rowOf("row 0", 1<<24)})
}

// macShown returns m for a message, with the beginning of its rows.
func macShown(m impl.Mac) string {
	return fmt.Sprintf("{Use %v, K %#x, L %#x, %d rows %.160q}", m.Use, m.K, m.L, len(m.Rows), fmt.Sprint(m.Rows[:min(len(m.Rows), 5)]))
}

func checkTag(t *testing.T, m impl.Mac, input string, want int) {
	t.Helper()
	if got := impl.MacOf(m, input); got != want {
		t.Errorf("MacOf(%s, %.40q) = %d, want %d", macShown(m), input, got, want)
	}
}

func checkMacOk(t *testing.T, m impl.Mac, want bool) {
	t.Helper()
	if got := impl.MacOk(m); got != want {
		t.Errorf("MacOk(%s) = %v", macShown(m), got)
	}
}

// checkMac checks all that is asked of m, for its own inputs and for those given.
func checkMac(t *testing.T, m impl.Mac, inputs ...string) {
	t.Helper()
	rows, kept := guarded(m.Rows)
	m.Rows = rows
	for range 2 {
		checkMacOk(t, m, validMac(m))
		for _, row := range m.Rows {
			checkTag(t, m, row.Input, tagOf(m, row.Input))
			checkTag(t, m, row.Input+"\x00", tagOf(m, row.Input+"\x00"))
		}
		for _, input := range inputs {
			got := impl.MacOf(m, input)
			if got < 0 || got > mostTag || got != tagOf(m, input) {
				t.Errorf("MacOf(%s, %.40q) = %d, want %d", macShown(m), input, got, tagOf(m, input))
			}
		}
		if !impl.SameMac(m, m) || !impl.SameMac(m, copiedMac(m)) || !impl.SameMac(copiedMac(m), m) {
			t.Errorf("SameMac of %s and itself is false", macShown(m))
		}
		if got := impl.TableMac(m.Rows); !got.Use || got.K != 0 || got.L != 0 || !slices.Equal(got.Rows, m.Rows) {
			t.Errorf("TableMac of the rows of %s = %s", macShown(m), macShown(got))
		}
	}
	if !kept() {
		t.Errorf("the rows of %s, or what is beside them, were changed", macShown(m))
	}
}

// checkSame checks SameMac of two Macs in both orders.
func checkSame(t *testing.T, a, b impl.Mac, want bool) {
	t.Helper()
	if impl.SameMac(a, b) != want || impl.SameMac(b, a) != want {
		t.Errorf("SameMac(%s, %s) = %v, and the other way around %v", macShown(a), macShown(b), impl.SameMac(a, b), impl.SameMac(b, a))
	}
}

func TestMacLimits(t *testing.T) {
	if impl.MaxRows != mostRows || impl.MacAll != 16777216 {
		t.Errorf("MaxRows = %d, MacAll = %d", impl.MaxRows, impl.MacAll)
	}
}

func TestMacOkOfSizes(t *testing.T) {
	for n := range 140 {
		checkMacOk(t, tableOf(rowsOf(n)...), n <= mostRows)
		checkMacOk(t, impl.Mac{Rows: rowsOf(n)}, n == 0)
		checkMac(t, tableOf(rowsOf(n)...), "", "row 0", "row 63", "row 64", "row 65", "row 139", "row 140")
	}
	for _, n := range []int{255, 256, 257, 65535, 65536, 65600} {
		m := tableOf(rowsOf(n)...)
		checkMacOk(t, m, false)
		checkTag(t, m, m.Rows[n-1].Input, m.Rows[n-1].Value)
		checkTag(t, m, "no row", 0)
	}
	// The same row, more often than there may be rows.
	for _, n := range []int{2, 63, 64, 65, 66, 128, 256} {
		checkMacOk(t, tableOf(slices.Repeat([]impl.MacRow{rowOf("a", 3)}, n)...), false)
		checkTag(t, tableOf(slices.Repeat([]impl.MacRow{rowOf("a", 3)}, n)...), "a", 3)
	}
}

func TestMacOkOfValues(t *testing.T) {
	for _, n := range []int{1, 2, 3, 63, 64} {
		rows := rowsOf(n)
		for at := range n {
			if n > 3 && at > 1 && at < n-2 && at != n/2 {
				continue
			}
			for _, value := range tagValues {
				checkMacOk(t, tableOf(withValue(rows, at, value)...), true)
				checkTag(t, tableOf(withValue(rows, at, value)...), rows[at].Input, value)
			}
			for _, value := range noTagValues {
				checkMacOk(t, tableOf(withValue(rows, at, value)...), false)
				checkMac(t, tableOf(withValue(rows, at, value)...), "no row")
			}
		}
	}
	for at := range mostRows {
		checkMacOk(t, tableOf(withValue(rowsOf(mostRows), at, -1)...), false)
		checkMacOk(t, tableOf(withValue(rowsOf(mostRows), at, tags)...), false)
		checkMacOk(t, tableOf(withValue(rowsOf(mostRows), at, mostTag)...), true)
	}
	// All rows have the same value, and each one is no tag.
	for _, value := range slices.Concat(tagValues, noTagValues) {
		rows := rowsOf(mostRows)
		for i := range rows {
			rows[i].Value = value
		}
		checkMacOk(t, tableOf(rows...), slices.Contains(tagValues, value))
		checkMac(t, tableOf(rows...))
	}
}

func TestMacOkOfKeys(t *testing.T) {
	for _, rows := range [][]impl.MacRow{nil, {}, rowsOf(1), rowsOf(mostRows), rowsOf(mostRows + 1), {rowOf("", 0)}, {rowOf("a", -1)}, {rowOf("a", 1), rowOf("a", 1)}} {
		for _, k := range sipKeys {
			for _, l := range sipKeys {
				with := impl.Mac{Use: true, K: k, L: l, Rows: rows}
				checkMacOk(t, with, k == 0 && l == 0 && validMac(tableOf(rows...)))
				checkMacOk(t, impl.Mac{K: k, L: l, Rows: rows}, len(rows) == 0)
				checkMac(t, with, confusedInputs...)
				checkMac(t, impl.Mac{K: k, L: l, Rows: rows}, confusedInputs...)
			}
		}
	}
	for bit := range 64 {
		checkMacOk(t, impl.Mac{Use: true, K: 1 << bit}, false)
		checkMacOk(t, impl.Mac{Use: true, L: 1 << bit}, false)
		checkMacOk(t, impl.Mac{Use: true, K: 1 << bit, L: 1 << bit, Rows: rowsOf(2)}, false)
		checkMacOk(t, impl.Mac{Use: true, K: 1 << bit, L: -(1 << bit), Rows: rowsOf(2)}, false)
		checkMacOk(t, impl.Mac{K: 1 << bit}, true)
		checkMacOk(t, impl.Mac{L: 1 << bit}, true)
	}
	checkMacOk(t, impl.Mac{}, true)
	checkMacOk(t, impl.Mac{Use: true}, true)
	checkMacOk(t, impl.Mac{Use: true, Rows: []impl.MacRow{}}, true)
	checkMacOk(t, impl.Mac{Rows: []impl.MacRow{}}, true)
	checkMacOk(t, impl.Mac{Rows: rowsOf(3)[:0]}, true)
	checkMacOk(t, impl.Mac{Rows: []impl.MacRow{{}}}, false)
	checkMacOk(t, impl.Mac{Use: true, Rows: []impl.MacRow{{}}}, true)
	checkMacOk(t, impl.Mac{Use: true, Rows: []impl.MacRow{{}, {}}}, false)
}

// Each two of the rows have the same input, with all kinds of values.
func TestMacOkOfTwoSameInputs(t *testing.T) {
	for _, n := range []int{2, 3, 63, 64} {
		rows := rowsOf(n)
		for at := range n {
			for from := range at {
				same := withInput(rows, at, rows[from].Input)
				checkMacOk(t, tableOf(same...), false)
				checkTag(t, tableOf(same...), rows[from].Input, rows[from].Value)
				checkTag(t, tableOf(same...), rows[at].Input, 0)
				checkMacOk(t, tableOf(withValue(same, at, rows[from].Value)...), false)
			}
		}
		for _, value := range slices.Concat(tagValues, noTagValues) {
			checkMac(t, tableOf(withRow(rows, n-1, rowOf(rows[0].Input, value))...))
			checkMac(t, tableOf(withRow(rows, 0, rowOf(rows[n-1].Input, value))...))
			checkMac(t, tableOf(withRow(rows, n-1, rowOf(rows[n-2].Input, value))...))
			checkMac(t, tableOf(withRow(rows, 1, rowOf(rows[0].Input, value))...))
		}
	}
	// One row more than the limit, of which two are one.
	over := rowsOf(mostRows + 1)
	for at := range mostRows {
		checkMacOk(t, tableOf(withInput(over, mostRows, over[at].Input)...), false)
	}
}

func TestMacOkOfMoreSameInputs(t *testing.T) {
	for _, n := range []int{3, 4, 63, 64} {
		rows := rowsOf(n)
		for _, places := range [][3]int{{0, 1, 2}, {0, 1, n - 1}, {0, n / 2, n - 1}, {0, n - 2, n - 1}, {n - 3, n - 2, n - 1}} {
			same := slices.Clone(rows)
			for _, at := range places {
				same[at].Input = "thrice"
			}
			checkMacOk(t, tableOf(same...), false)
			checkTag(t, tableOf(same...), "thrice", rows[places[0]].Value)
			checkMac(t, tableOf(same...), "twice")
		}
		// Two inputs twice each, within each other and one behind the other.
		checkMac(t, tableOf(withInput(withInput(rows, n-1, rows[0].Input), n-2, rows[1].Input)...))
		checkMac(t, tableOf(withInput(withInput(rows, 1, rows[0].Input), n-1, rows[n-2].Input)...))
	}
	for _, c := range []struct {
		rows []impl.MacRow
		ok   bool
		want int
	}{
		{[]impl.MacRow{rowOf("", 0)}, true, 0},
		{[]impl.MacRow{rowOf("", 5)}, true, 5},
		{[]impl.MacRow{rowOf("", mostTag)}, true, mostTag},
		{[]impl.MacRow{rowOf("", -1)}, false, mostTag},
		{[]impl.MacRow{rowOf("", 0), rowOf("", 0)}, false, 0},
		{[]impl.MacRow{rowOf("", 0), rowOf("", 5)}, false, 0},
		{[]impl.MacRow{rowOf("", 5), rowOf("", 0)}, false, 5},
		{[]impl.MacRow{rowOf("", 5), rowOf("", 5)}, false, 5},
		{[]impl.MacRow{rowOf("a", 5), rowOf("", 6)}, true, 6},
		{[]impl.MacRow{rowOf("", 5), rowOf("a", 6)}, true, 5},
		{[]impl.MacRow{rowOf("", 5), rowOf("a", 6), rowOf("", 7)}, false, 5},
		{[]impl.MacRow{rowOf("a", 5), rowOf("", 6), rowOf("a", 7)}, false, 6},
		{[]impl.MacRow{rowOf("\x00", 5), rowOf("", 6)}, true, 6},
		{[]impl.MacRow{rowOf("\x00", 5), rowOf("\x00", 6)}, false, 0},
		{[]impl.MacRow{rowOf("a", 5)}, true, 0},
	} {
		checkMacOk(t, tableOf(c.rows...), c.ok)
		checkTag(t, tableOf(c.rows...), "", c.want)
		checkMac(t, tableOf(c.rows...), confusedInputs...)
	}
}

// Rows whose inputs are nearly the same are rows of their own.
func TestMacOfConfusedInputs(t *testing.T) {
	for from := range confusedInputs {
		var rows []impl.MacRow
		for i := range mostRows {
			rows = append(rows, rowOf(confusedInputs[(from+i)%len(confusedInputs)], mostTag-i))
		}
		checkMacOk(t, tableOf(rows...), true)
		for i, row := range rows {
			checkTag(t, tableOf(rows...), row.Input, mostTag-i)
		}
		checkMac(t, tableOf(rows...), confusedInputs...)
	}
	for _, a := range confusedInputs {
		for _, b := range confusedInputs {
			checkMacOk(t, tableOf(rowOf(a, 1), rowOf(b, 1)), a != b)
			checkTag(t, tableOf(rowOf(a, 1), rowOf(b, 2)), a, 1)
			if a != b {
				checkTag(t, tableOf(rowOf(a, 1), rowOf(b, 2)), b, 2)
				checkTag(t, tableOf(rowOf(a, 1)), b, 0)
				checkSame(t, tableOf(rowOf(a, 1)), tableOf(rowOf(b, 1)), false)
			}
		}
	}
}

// Inputs as long as those of cookies, and longer ones, that differ in one byte
// or in their length.
func TestMacOfLongInputs(t *testing.T) {
	for _, size := range []int{1, 16, 17, 18, 255, 256, 257, 70000} {
		input := someBytes(size, size)
		ends := []string{input + "\x00", "\x00" + input, input + "\x01", input[1:], input[:size-1], input + input}
		for _, at := range []int{0, size / 2, size - 1} {
			for bit := range 8 {
				ends = append(ends, replaced(input, at, string([]byte{input[at] ^ 1<<bit})))
			}
		}
		for _, other := range ends {
			m := tableOf(rowOf(input, 3), rowOf(other, 4))
			checkMacOk(t, m, true)
			checkTag(t, m, input, 3)
			checkTag(t, m, strings.Clone(other), 4)
			checkTag(t, tableOf(rowOf(other, 4)), input, 0)
			checkMacOk(t, tableOf(rowOf(input, 3), rowOf(strings.Clone(input), 4)), false)
			checkSame(t, tableOf(rowOf(input, 3)), tableOf(rowOf(other, 3)), false)
			checkSame(t, tableOf(rowOf(input, 3)), tableOf(rowOf(strings.Clone(input), 3)), true)
		}
	}
	input := fullInput(fromIp, 40000, 80, 7, 1, 2)
	others := []string{
		fullInput(toIp, 40000, 80, 7, 1, 2), fullInput(fromIp, 40001, 80, 7, 1, 2), fullInput(fromIp, 80, 40000, 7, 1, 2), fullInput(fromIp, 40000, 81, 7, 1, 2), fullInput(fromIp, 40000, 80, 8, 1, 2),
		fullInput(fromIp, 40000, 80, 1, 7, 2), fullInput(fromIp, 40000, 80, 7, 2, 2), fullInput(fromIp, 40000, 80, 7, 2, 1), fullInput(fromIp, 40000, 80, 7, 1, 3),
	}
	for i, other := range others {
		checkTag(t, tableOf(rowOf(other, 9), rowOf(input, 3), rowOf(other, 5)), input, 3)
		checkTag(t, tableOf(rowOf(other, 9), rowOf(input, 3), rowOf(other, 5)), other, 9)
		if impl.MacOf(impl.KeyMac(knownK, knownL), other) == impl.MacOf(impl.KeyMac(knownK, knownL), input) {
			t.Errorf("the tags of an input and of the one of number %d that differs in a field are the same", i)
		}
	}
}

// The first row with an input counts, whatever the later ones say.
func TestMacOfTheFirstRow(t *testing.T) {
	values := slices.Concat(tagValues, noTagValues)
	for _, first := range values {
		want := int(uint64(first) % tags)
		for _, later := range values {
			checkTag(t, tableOf(rowOf("a", first), rowOf("a", later)), "a", want)
			checkTag(t, tableOf(rowOf("b", later), rowOf("a", first), rowOf("a", later), rowOf("b", first)), "a", want)
			checkTag(t, tableOf(rowOf("a", first), rowOf("b", later), rowOf("a", later), rowOf("a", first)), "b", int(uint64(later)%tags))
			checkTag(t, tableOf(rowOf("a", first), rowOf("a", later)), "b", 0)
		}
	}
	for _, n := range []int{2, 3, 64, 65, 200} {
		for at := range n {
			rows := rowsOf(n)
			for i := at; i < n; i++ {
				rows[i] = rowOf("again", i-at)
			}
			checkTag(t, tableOf(rows...), "again", 0)
			rows[at].Value = -1
			checkTag(t, tableOf(rows...), "again", mostTag)
			checkTag(t, tableOf(rows...), "Again", 0)
		}
	}
}

func TestMacOfValues(t *testing.T) {
	for _, c := range []struct{ value, want int }{
		{0, 0}, {1, 1}, {2, 2}, {8388607, 8388607}, {8388608, 8388608}, {16777214, 16777214}, {16777215, 16777215}, {16777216, 0}, {16777217, 1}, {33554431, 16777215}, {33554432, 0},
		{-1, 16777215}, {-2, 16777214}, {-16777215, 1}, {-16777216, 0}, {-16777217, 16777215}, {-33554432, 0}, {-33554433, 16777215},
		{math.MinInt, 0}, {math.MinInt + 1, 1}, {math.MaxInt, 16777215}, {math.MaxInt - 1, 16777214}, {math.MinInt32, 0}, {math.MaxInt32, 16777215}, {math.MaxUint32, 16777215}, {math.MaxUint32 + 1, 0},
		{0x123456789abcde, 0x9abcde}, {-0x123456789abcde, 0x654322},
	} {
		checkTag(t, tableOf(rowOf("a", c.value)), "a", c.want)
		checkTag(t, tableOf(rowOf("b", 3), rowOf("a", c.value), rowOf("a", 3)), "a", c.want)
		checkTag(t, tableOf(rowOf("a", c.value)), "", 0)
		// Use alone decides: the key beside the table changes nothing.
		checkTag(t, impl.Mac{Use: true, K: most, L: 1, Rows: []impl.MacRow{rowOf("a", c.value)}}, "a", c.want)
	}
	var inputs []string
	for seed := range 3000 {
		value := someInt(seed)
		checkMac(t, tableOf(rowOf("a", value), rowOf("", -value)), "a", "", "b")
		inputs = append(inputs, someBytes(seed%9, seed))
	}
	checkMac(t, tableOf(), inputs...)
	checkMac(t, impl.Mac{Use: true, K: knownK, L: knownL}, inputs...)
	for _, m := range []impl.Mac{{Use: true}, {Use: true, Rows: []impl.MacRow{}}, {Use: true, K: knownK, L: knownL}, impl.TableMac(nil)} {
		for _, input := range confusedInputs {
			checkTag(t, m, input, 0)
		}
	}
}

// Without Use, a tag is the lowest 24 bits of a hash.
func TestMacOfKeys(t *testing.T) {
	for _, c := range []struct {
		k, l        uint64
		empty, some int
	}{
		{0, 0, 0x7700d7, 0xd49a0a}, {0, 1, 0xd6521c, 0x17b220}, {0, 1 << 63, 0xc98ce8, 0xe8057d}, {0, most, 0xf8737b, 0x1d3cae},
		{1, 0, 0x1ca3de, 0x40c4f6}, {1, 1, 0x49e87c, 0x78da56}, {1, 1 << 63, 0xdb5950, 0xbb8027}, {1, most, 0x08c195, 0x5d0923},
		{1 << 63, 0, 0xc9a5b9, 0xe21cf7}, {1 << 63, 1, 0x097a96, 0xe62b02}, {1 << 63, 1 << 63, 0x72a106, 0x5cf503}, {1 << 63, most, 0xba03db, 0x92a174},
		{most, 0, 0xa40925, 0x6b84aa}, {most, 1, 0x6c2c61, 0xc31c7a}, {most, 1 << 63, 0xace247, 0xbbea90}, {most, most, 0x6ce565, 0x0da97a},
	} {
		checkTag(t, impl.KeyMac(c.k, c.l), "", c.empty)
		checkTag(t, impl.KeyMac(c.k, c.l), "some text", c.some)
		checkTag(t, impl.Mac{K: c.k, L: c.l}, "some text", c.some)
		// Rows beside the key change nothing.
		rows := []impl.MacRow{rowOf("", 1), rowOf("some text", 2), rowOf("some text", 3)}
		checkTag(t, impl.Mac{K: c.k, L: c.l, Rows: rows}, "", c.empty)
		checkTag(t, impl.Mac{K: c.k, L: c.l, Rows: rows}, "some text", c.some)
	}
	text := ""
	for n, hash := range knownHashes {
		checkTag(t, impl.KeyMac(knownK, knownL), text, int(hash&0xffffff))
		checkMac(t, impl.KeyMac(knownK, knownL), text)
		checkMac(t, impl.Mac{K: knownK, L: knownL, Rows: []impl.MacRow{rowOf(text, n)}}, text)
		text += string([]byte{byte(n)})
	}
	checkTag(t, impl.KeyMac(0, 0), "Hello world", 0x3822d9)
	for _, size := range slices.Concat(sipSizes, []int{65535, 65536, 1 << 20}) {
		for _, fill := range sipFills {
			checkMac(t, impl.KeyMac(knownK, knownL), strings.Repeat(string([]byte{fill}), size))
		}
		checkMac(t, impl.KeyMac(someWord(size), someWord(size+1)), someBytes(size, size))
	}
	for seed := range 3000 {
		m := impl.KeyMac(someWord(2*seed), someWord(2*seed+1))
		checkMac(t, m, someBytes(seed%40, seed), confusedInputs[seed%len(confusedInputs)])
		if hash := impl.SipHash(m.K, m.L, "x"); impl.MacOf(m, "x") != int(hash%impl.MacAll) {
			t.Errorf("MacOf(%s, x) = %#x, and the hash is %#x", macShown(m), impl.MacOf(m, "x"), hash)
		}
	}
}

// Tags have 24 bits: no more, and none of them is always the same.
func TestMacHas24Bits(t *testing.T) {
	ones, zeros := 0, 0
	check := func(m impl.Mac, input string) {
		t.Helper()
		tag := impl.MacOf(m, input)
		if tag < 0 || tag > mostTag || tag != tagOf(m, input) {
			t.Errorf("MacOf(%s, %q) = %d", macShown(m), input, tag)
		}
		ones |= tag
		zeros |= ^tag
	}
	for _, table := range []bool{false, true} {
		ones, zeros = 0, 0
		for seed := range 5000 {
			input := someBytes(seed%20, seed)
			if table {
				check(tableOf(rowOf(input, someInt(seed))), input)
			} else {
				check(impl.KeyMac(someWord(seed), someWord(seed+7)), input)
			}
		}
		if ones != mostTag || zeros&mostTag != mostTag {
			t.Errorf("of all tags, the bits that are 1 are %#x, and 0 %#x", ones, zeros&mostTag)
		}
	}
	for bit := range 64 {
		value := int(uint64(1) << bit)
		checkTag(t, tableOf(rowOf("a", value)), "a", value&mostTag)
		checkTag(t, tableOf(rowOf("a", ^value)), "a", ^value&mostTag)
		checkMacOk(t, tableOf(rowOf("a", value)), bit < 24)
		checkMacOk(t, tableOf(rowOf("a", ^value)), bit == 63 && ^value < tags)
	}
}

func TestTableMac(t *testing.T) {
	for _, rows := range [][]impl.MacRow{
		nil, {}, {{}}, {{}, {}}, rowsOf(1), rowsOf(2), rowsOf(mostRows), rowsOf(mostRows + 1), rowsOf(300),
		{rowOf("a", 1), rowOf("a", 2)}, {rowOf("b", 1), rowOf("a", 1)}, {rowOf("a", -1), rowOf("b", tags)}, {rowOf("", math.MinInt), rowOf("", math.MaxInt), rowOf("", 0)},
	} {
		got := impl.TableMac(rows)
		if !got.Use || got.K != 0 || got.L != 0 || len(got.Rows) != len(rows) {
			t.Errorf("TableMac of %d rows = %s", len(rows), macShown(got))
		}
		for i, row := range got.Rows {
			if row != rows[i] {
				t.Errorf("TableMac of %d rows has %v at %d, want %v", len(rows), row, i, rows[i])
			}
		}
		checkSame(t, got, tableOf(rows...), true)
		checkMac(t, got, confusedInputs...)
	}
}

func TestKeyMac(t *testing.T) {
	for _, k := range slices.Concat(sipKeys, []uint64{knownK, knownL}) {
		for _, l := range slices.Concat(sipKeys, []uint64{knownK, knownL}) {
			got := impl.KeyMac(k, l)
			if got.Use || got.K != k || got.L != l || len(got.Rows) != 0 {
				t.Errorf("KeyMac(%#x, %#x) = %s", k, l, macShown(got))
			}
			checkMacOk(t, got, true)
			checkSame(t, got, impl.Mac{K: k, L: l}, true)
			checkSame(t, got, impl.KeyMac(l, k), k == l)
			checkSame(t, got, tableOf(), false)
			if (impl.MacOf(got, "x") == impl.MacOf(impl.KeyMac(l, k), "x")) != (k == l) {
				t.Errorf("the tags with the keys %#x, %#x and exchanged: %#x, %#x", k, l, impl.MacOf(got, "x"), impl.MacOf(impl.KeyMac(l, k), "x"))
			}
		}
	}
}

func TestSameMac(t *testing.T) {
	rows := []impl.MacRow{rowOf("a", 1), rowOf("b", 2), rowOf("c", 3)}
	base := impl.Mac{Use: true, K: 5, L: 6, Rows: rows}
	checkSame(t, base, copiedMac(base), true)
	for _, other := range []impl.Mac{
		{Use: false, K: 5, L: 6, Rows: rows}, {Use: true, K: 4, L: 6, Rows: rows}, {Use: true, K: 5, L: 7, Rows: rows}, {Use: true, K: 6, L: 5, Rows: rows}, {Use: true, K: 0, L: 6, Rows: rows}, {Use: true, K: 5, L: 0, Rows: rows},
		{Use: true, K: 5 + 1<<63, L: 6, Rows: rows}, {Use: true, K: 5, L: 6 + 1<<32, Rows: rows}, {Use: true, K: 5, L: 6}, {}, {Use: true}, {Use: true, K: 5, L: 6, Rows: []impl.MacRow{}},
	} {
		checkSame(t, base, other, false)
		checkSame(t, other, copiedMac(other), true)
	}
	for at := range rows {
		for _, row := range []impl.MacRow{
			{}, rowOf("", rows[at].Value), rowOf(rows[at].Input+"\x00", rows[at].Value), rowOf("A", rows[at].Value), rowOf("d", rows[at].Value), rowOf(rows[at].Input, 0), rowOf(rows[at].Input, -rows[at].Value),
			rowOf(rows[at].Input, rows[at].Value+tags), rowOf(rows[at].Input, rows[at].Value-tags), rowOf(rows[at].Input, rows[at].Value+1<<32), rowOf(rows[at].Input, rows[at].Value+1),
		} {
			checkSame(t, base, impl.Mac{Use: true, K: 5, L: 6, Rows: withRow(rows, at, row)}, false)
			checkSame(t, impl.Mac{Rows: rows}, impl.Mac{Rows: withRow(rows, at, row)}, false)
		}
	}
	same := rowOf("a", 1)
	lists := [][]impl.MacRow{
		nil, {{}}, {{}, {}}, {rowOf("a", 1)}, {rowOf("b", 2)}, {rowOf("a", 2)}, {rowOf("b", 1)}, {rowOf("a", 1), rowOf("b", 2)}, {rowOf("b", 2), rowOf("a", 1)}, {rowOf("a", 2), rowOf("b", 1)},
		{same, same}, {same, same, same}, {same, rowOf("b", 2), rowOf("c", 3)}, {same, rowOf("c", 3), rowOf("b", 2)}, {rowOf("c", 3), rowOf("b", 2), same}, {rowOf("b", 2), rowOf("c", 3), same},
		{same, rowOf("b", 2), rowOf("c", 3), {}}, {{}, same, rowOf("b", 2), rowOf("c", 3)}, {same, rowOf("b", 2), rowOf("c", 3), rowOf("c", 3)}, {same, same, rowOf("b", 2)}, {same, rowOf("b", 2), rowOf("b", 2)}, {same, rowOf("a", 0)}, {rowOf("a", 0), same},
		rowsOf(mostRows), rowsOf(mostRows + 1), rowsOf(mostRows + 2), rowsOf(mostRows - 1),
	}
	for i, a := range lists {
		for j, b := range lists {
			checkSame(t, tableOf(a...), copiedMac(tableOf(b...)), i == j)
			checkSame(t, impl.TableMac(a), impl.TableMac(b), i == j)
			checkSame(t, impl.Mac{Rows: a}, impl.Mac{Rows: b}, i == j)
			checkSame(t, tableOf(a...), impl.Mac{Rows: b}, false)
		}
	}
}

// The length of the rows counts, and not whether they are nil, nor where they
// are, nor what their unused capacity holds.
func TestSameMacOfEmptyRows(t *testing.T) {
	empty := [][]impl.MacRow{nil, {}, make([]impl.MacRow, 0, 5), rowsOf(3)[:0], rowsOf(3)[3:]}
	for _, a := range empty {
		for _, b := range empty {
			for _, use := range []bool{false, true} {
				checkSame(t, impl.Mac{Use: use, Rows: a}, impl.Mac{Use: use, Rows: b}, true)
				checkSame(t, impl.Mac{Use: use, K: 1, Rows: a}, impl.Mac{Use: use, K: 1, Rows: b}, true)
				checkSame(t, impl.Mac{Use: use, K: 1, Rows: a}, impl.Mac{Use: use, L: 1, Rows: b}, false)
				checkSame(t, impl.Mac{Use: use, Rows: a}, impl.Mac{Use: !use, Rows: b}, false)
				checkSame(t, impl.Mac{Use: use, Rows: a}, impl.Mac{Use: use, Rows: []impl.MacRow{{}}}, false)
			}
		}
	}
	rows := rowsOf(5)
	checkSame(t, tableOf(rows[:3]...), tableOf(rowsOf(9)[:3:3]...), true)
	checkSame(t, tableOf(rows[:3]...), tableOf(rows[:4]...), false)
	checkSame(t, tableOf(rows[:2]...), tableOf(rows[2:4]...), false)
}

// drawnRows returns rows of few inputs, so that many are the same, and values of
// which most are tags.
func drawnRows(seed int) []impl.MacRow {
	size := []int{0, 1, 2, 3, 4, 5, 8, 12, 63, 64, 65, 70}[someWord(seed)%12]
	kinds := []uint64{1, 3, 10, 200, 100000}[someWord(seed+1)%5]
	values := slices.Concat(tagValues, tagValues, tagValues, tagValues, noTagValues)
	var rows []impl.MacRow
	for i := range size {
		value := values[someWord(seed+2*i)%uint64(len(values))]
		if seed%3 > 0 {
			value &= mostTag
		}
		rows = append(rows, rowOf(wideBytes(int(someWord(seed+3*i+5)%kinds), 1+seed%3), value))
	}
	return rows
}

func TestMacOfDrawnTables(t *testing.T) {
	valid := map[bool]int{}
	for seed := range 1500 {
		rows := drawnRows(seed)
		for _, m := range []impl.Mac{tableOf(rows...), impl.TableMac(rows), {Use: seed%2 == 0, K: someWord(seed) % 2, L: someWord(seed+1) % 2, Rows: rows}} {
			checkMac(t, m, confusedInputs[seed%len(confusedInputs)], "", "\x00", "\x01")
			valid[impl.MacOk(m)]++
			other := impl.Mac{Use: m.Use, K: m.K, L: m.L, Rows: drawnRows(seed + 1 + seed%2)}
			checkSame(t, m, other, equalMacs(m, other))
		}
	}
	if valid[true] < 500 || valid[false] < 500 {
		t.Errorf("only %d and %d of the Macs are right and wrong", valid[true], valid[false])
	}
}

// Neither a right nor a wrong Mac depends on the order of its rows, but for
// those of the same input.
func TestMacOkInAnyOrder(t *testing.T) {
	for seed := range 500 {
		rows := drawnRows(seed)
		m := tableOf(rows...)
		back := slices.Clone(rows)
		slices.Reverse(back)
		ordered := slices.Clone(rows)
		slices.SortStableFunc(ordered, func(a, b impl.MacRow) int { return strings.Compare(a.Input, b.Input) })
		for _, list := range [][]impl.MacRow{back, ordered, append(slices.Clone(rows[len(rows)/2:]), rows[:len(rows)/2]...)} {
			checkMacOk(t, tableOf(list...), impl.MacOk(m))
		}
		for _, row := range rows {
			checkTag(t, tableOf(ordered...), row.Input, impl.MacOf(m, row.Input))
			if impl.MacOk(m) {
				checkTag(t, tableOf(back...), row.Input, row.Value)
			}
		}
	}
}

// What TableMac returns and its argument are changed one without the other.
func TestTableMacSharesNothing(t *testing.T) {
	for _, n := range []int{0, 1, 2, 3, 5, 63, 64, 65, 200} {
		want := rowsOf(n)
		rows, kept := guarded(want)
		first, second := impl.TableMac(rows), impl.TableMac(rows)
		for i := range n {
			first.Rows[i] = rowOf("changed", -i)
		}
		first.Rows = append(first.Rows, rowOf("more", 1), rowOf("more", 2))
		_ = append(first.Rows[:n/2], rowOf("less", 3))
		if !kept() || !slices.Equal(second.Rows, want) {
			t.Errorf("a change of the Mac of %d rows is seen in its rows or in another Mac", n)
		}
		for i := range rows {
			rows[i] = rowOf("changed too", i)
		}
		_ = append(rows[:n/2], rowOf("less too", 3))
		grown := append(rows, rowOf("grown", 1))
		if !slices.Equal(second.Rows, want) || !slices.Equal(second.Rows[:cap(second.Rows)][n:], make([]impl.MacRow, cap(second.Rows)-n)) || len(grown) != n+1 {
			t.Errorf("a change of the %d rows is seen in their Mac", n)
		}
		_ = append(second.Rows, rowOf("last", 1))
		if len(rows) > 0 && rows[n-1].Input == "last" || grown[n] != rowOf("grown", 1) {
			t.Errorf("an append to the Mac of %d rows is seen in them", n)
		}
	}
}

// Every function returns, and returns the same again, whatever it is given.
func TestMacIsTotal(t *testing.T) {
	defer func() {
		if r := recover(); r != nil {
			t.Fatalf("panic: %v", r)
		}
	}()
	for i, x := range farInts {
		for j, y := range farInts {
			for _, rows := range [][]impl.MacRow{nil, {}, {rowOf("", x), rowOf(someBytes(i, j), y)}, {rowOf("a", x), rowOf("a", y)}, rowsOf(i)} {
				with := impl.Mac{Use: true, K: uint64(x), L: uint64(y), Rows: rows}
				without := impl.Mac{K: uint64(x), L: uint64(y), Rows: rows}
				checkMac(t, with, "", "a", someBytes(i, j))
				checkMac(t, without, "", "a", someBytes(i, j))
				checkSame(t, with, without, false)
				checkSame(t, impl.KeyMac(uint64(x), uint64(y)), without, len(rows) == 0)
				checkSame(t, impl.TableMac(rows), with, x == 0 && y == 0)
			}
		}
	}
	huge := rowsOf(100000)
	checkMacOk(t, tableOf(huge...), false)
	checkMacOk(t, impl.Mac{Rows: huge}, false)
	checkSame(t, tableOf(huge...), impl.TableMac(huge), true)
	checkTag(t, tableOf(huge...), "row 99999", huge[99999].Value)
}

// The rows are as they were after every function, as is the memory beside them.
func TestMacArgumentsUnchanged(t *testing.T) {
	for seed := range 300 {
		list := drawnRows(seed)
		rows, kept := guarded(list)
		other, keptToo := guarded(drawnRows(seed))
		a, b := tableOf(rows...), tableOf(other...)
		for name, call := range map[string]func(){
			"MacOk":    func() { impl.MacOk(a) },
			"MacOf":    func() { impl.MacOf(a, "\x00"); impl.MacOf(a, "no row") },
			"TableMac": func() { impl.TableMac(rows) },
			"SameMac":  func() { impl.SameMac(a, b); impl.SameMac(a, a) },
		} {
			call()
			if !kept() || !keptToo() || len(a.Rows) != len(list) || !a.Use || a.K != 0 || a.L != 0 {
				t.Errorf("%s changed %s", name, macShown(a))
			}
		}
	}
	text := someBytes(70, 1)
	before := strings.Clone(text)
	for from := range len(text) {
		m := tableOf(rowOf(text[from:], from), rowOf(text[:from], 100+from))
		checkTag(t, m, before[from:], from)
		checkMacOk(t, m, true)
		checkTag(t, impl.KeyMac(knownK, knownL), text[:from], int(hashOf(knownK, knownL, before[:from])%tags))
		if text != before {
			t.Errorf("the text is %q now", text)
		}
	}
}

// No call depends on other calls, before it or at the same time.
func TestMacKeepsNothing(t *testing.T) {
	shared := tableOf(rowsOf(mostRows)...)
	twice := tableOf(withInput(shared.Rows, 63, "row 0")...)
	checkAtOnce(t, func(worker int, faults map[string]int) {
		for i := range 300 {
			at := (i + 37*worker) % mostRows
			mine := impl.TableMac(drawnRows(i + worker))
			if !impl.MacOk(shared) || impl.MacOk(twice) || impl.MacOk(mine) != validMac(mine) {
				faults["MacOk"]++
			}
			if impl.MacOf(shared, shared.Rows[at].Input) != shared.Rows[at].Value || impl.MacOf(twice, "row 0") != twice.Rows[0].Value || impl.MacOf(mine, "\x00") != tagOf(mine, "\x00") {
				faults["MacOf"]++
			}
			if !impl.SameMac(shared, impl.TableMac(shared.Rows)) || impl.SameMac(shared, twice) || !impl.SameMac(impl.KeyMac(1, 2), impl.Mac{K: 1, L: 2}) {
				faults["SameMac"]++
			}
		}
	})
}
