package tests

import (
	"fmt"
	"math"
	"slices"
	"testing"

	"loop.example/g00504/impl"
)

// The numbers of a cookie that its epoch and its index are counted in.
const (
	epochStep = 1 << 27
	indexStep = 1 << 24
)

// cookieEpochs are the epochs at both ends, and those at which the five bits of
// a cookie begin again.
var cookieEpochs = []int{0, 1, 2, 30, 31, 32, 33, 34, 62, 63, 64, 65, 1000, half - 1, half, half + 1, mostIp - 33, mostIp - 32, mostIp - 31, mostIp - 2, mostIp - 1, mostIp}

// noEpochs are numbers that are no epoch, with those that have the lowest bits
// of one.
var noEpochs = []int{math.MinInt, math.MinInt + 1, math.MinInt + 33, -1 << 32, -1<<32 + 1, -mostIp, -33, -32, -31, -2, -1, mostIp + 1, mostIp + 2, 1<<32 + 33, 1<<33 - 1, 1 << 33, 1 << 62, math.MaxInt - 1, math.MaxInt}

// The peer that most cookies are made for.
var cookiePeer = impl.Tuple{Ip: fromIp, Port: 40000, My: 80}

const cookieSeq = 123456789

// peerArgs are the arguments of a cookie for the peer.
func peerArgs(epoch, i int) macArgs { return macArgs{cookiePeer, cookieSeq, epoch, i} }

// namedMac is a Mac with a word for it.
type namedMac struct {
	name string
	mac  impl.Mac
}

// refusedMacs have one fault each, for every reason that MacOk has.
func refusedMacs() []namedMac {
	return []namedMac{
		{"a table and K", impl.Mac{Use: true, K: 1, Rows: rowsOf(2)}},
		{"a table and L", impl.Mac{Use: true, L: 1, Rows: rowsOf(2)}},
		{"no row and K", impl.Mac{Use: true, K: 1 << 63}},
		{"no row and L", impl.Mac{Use: true, L: 1 << 63}},
		{"65 rows", tableOf(rowsOf(65)...)},
		{"an input twice", tableOf(rowOf("a", 1), rowOf("b", 2), rowOf("a", 1))},
		{"a value of -1", tableOf(rowOf("a", 1), rowOf("b", -1))},
		{"a value of MacAll", tableOf(rowOf("a", tags), rowOf("b", 1))},
		{"the smallest value", tableOf(rowOf("a", math.MinInt))},
		{"a key and a row", impl.Mac{K: 1, L: 2, Rows: rowsOf(1)}},
		{"no key and a row", impl.Mac{Rows: []impl.MacRow{{}}}},
	}
}

// someMacs are Macs that MacOk accepts, at both ends.
func someMacs() []impl.Mac {
	return []impl.Mac{
		{}, impl.KeyMac(knownK, knownL), impl.KeyMac(most, most), impl.KeyMac(1, 0), impl.KeyMac(0, 1), {K: 5, Rows: []impl.MacRow{}},
		{Use: true}, {Use: true, Rows: []impl.MacRow{}}, tableOf(rowOf("", 0)), tableOf(rowOf("", mostTag)), tableOf(rowOf("a", 0), rowOf("b", mostTag)), tableOf(rowsOf(mostRows)...),
	}
}

// textOf is the text that the tag of valid arguments is made of.
func textOf(a macArgs) string {
	return fullInput(a.tuple.Ip, a.tuple.Port, a.tuple.My, a.seq, a.epoch, a.i)
}

// tableFrom gives each of the arguments a tag of its own, from first on.
func tableFrom(first int, list ...macArgs) impl.Mac {
	var rows []impl.MacRow
	for at, a := range list {
		rows = append(rows, rowOf(textOf(a), first+at))
	}
	return tableOf(rows...)
}

// everyIndex are the arguments with each index from 0 to 7.
func everyIndex(a macArgs) []macArgs {
	var list []macArgs
	for i := range 8 {
		a.i = i
		list = append(list, a)
	}
	return list
}

func cookieOf(m impl.Mac, a macArgs) int {
	return impl.CookieOf(m, a.tuple, a.seq, a.epoch, a.i)
}

// cookieFor puts a cookie together bit by bit.
func cookieFor(m impl.Mac, a macArgs) int {
	if !validArgs(a) {
		return -1
	}
	return a.epoch&31<<27 | a.i<<24 | tagOf(m, textOf(a))
}

func validKeys(k impl.Keys) bool {
	lowest := 0
	if k.Two {
		lowest = 1
	} else if !equalMacs(k.Before, impl.Mac{}) {
		return false
	}
	return k.Epoch >= lowest && k.Epoch <= mostIp && validMac(k.Now) && validMac(k.Before)
}

// secretIn returns what SecretOf is to return. Like all sums of ints, the number
// below the smallest one is the largest one.
func secretIn(k impl.Keys, epoch int) (impl.Mac, bool) {
	if epoch == k.Epoch {
		return k.Now, true
	}
	if k.Two && epoch == k.Epoch-1 {
		return k.Before, true
	}
	return impl.Mac{}, false
}

// cookieFound looks among all cookies that the keys can have made for this seq.
func cookieFound(k impl.Keys, x impl.Tuple, seq, cookie int) (int, int, bool) {
	if !validKeys(k) || cookie < 0 {
		return 0, 0, false
	}
	for i := range 8 {
		if cookieFor(k.Now, macArgs{x, seq, k.Epoch, i}) == cookie {
			return k.Epoch, i, true
		}
		if k.Two && cookieFor(k.Before, macArgs{x, seq, k.Epoch - 1, i}) == cookie {
			return k.Epoch - 1, i, true
		}
	}
	return 0, 0, false
}

func rotatedKeys(k impl.Keys, m impl.Mac) impl.Keys {
	if !validKeys(k) || !validMac(m) || k.Epoch == mostIp {
		return k
	}
	return impl.Keys{Epoch: k.Epoch + 1, Now: m, Before: k.Now, Two: true}
}

func equalKeys(a, b impl.Keys) bool {
	return a.Epoch == b.Epoch && a.Two == b.Two && equalMacs(a.Now, b.Now) && equalMacs(a.Before, b.Before)
}

func copiedKeys(k impl.Keys) impl.Keys {
	k.Now, k.Before = copiedMac(k.Now), copiedMac(k.Before)
	return k
}

// guardedKeys returns k with rows that are guarded, and a function that reports
// whether they and all memory around them are as they were.
func guardedKeys(k impl.Keys) (impl.Keys, func() bool) {
	now, keptNow := guarded(k.Now.Rows)
	before, keptBefore := guarded(k.Before.Rows)
	k.Now.Rows, k.Before.Rows = now, before
	return k, func() bool { return keptNow() && keptBefore() }
}

func keysShown(k impl.Keys) string {
	return fmt.Sprintf("{Epoch %d, Now %s, Before %s, Two %v}", k.Epoch, macShown(k.Now), macShown(k.Before), k.Two)
}

func checkKeysOk(t *testing.T, k impl.Keys, want bool) {
	t.Helper()
	k, kept := guardedKeys(k)
	for range 2 {
		if got := impl.KeysOk(k); got != want || want != validKeys(k) {
			t.Errorf("KeysOk(%s) = %v, want %v", keysShown(k), got, want)
		}
	}
	if !kept() {
		t.Errorf("KeysOk changed the rows of %s", keysShown(k))
	}
}

func checkSecret(t *testing.T, k impl.Keys, epoch int, want impl.Mac, ok bool) {
	t.Helper()
	k, kept := guardedKeys(k)
	for range 2 {
		if got, gotOk := impl.SecretOf(k, epoch); gotOk != ok || !equalMacs(got, want) {
			t.Errorf("SecretOf(%s, %d) = %s, %v, want %s, %v", keysShown(k), epoch, macShown(got), gotOk, macShown(want), ok)
		}
	}
	if !kept() {
		t.Errorf("SecretOf changed the rows of %s", keysShown(k))
	}
}

func checkCookieOf(t *testing.T, m impl.Mac, a macArgs, want int) {
	t.Helper()
	rows, kept := guarded(m.Rows)
	m.Rows = rows
	for range 2 {
		if got := cookieOf(m, a); got != want {
			t.Errorf("CookieOf(%s, %+v) = %d, want %d", macShown(m), a, got, want)
		}
	}
	if !kept() {
		t.Errorf("CookieOf changed the rows of %s", macShown(m))
	}
}

func checkParts(t *testing.T, cookie, epoch, i, tag int) {
	t.Helper()
	for range 2 {
		if a, b, c := impl.CookieParts(cookie); a != epoch || b != i || c != tag {
			t.Errorf("CookieParts(%d) = %d, %d, %d, want %d, %d, %d", cookie, a, b, c, epoch, i, tag)
		}
	}
}

// checkAnswer checks what CheckCookie says of a cookie for any peer.
func checkAnswer(t *testing.T, k impl.Keys, x impl.Tuple, seq, cookie int, epoch, i int, ok bool) {
	t.Helper()
	k, kept := guardedKeys(k)
	for range 2 {
		if a, b, gotOk := impl.CheckCookie(k, x, seq, cookie); a != epoch || b != i || gotOk != ok {
			t.Errorf("CheckCookie(%s, %+v, %d, %#x) = %d, %d, %v, want %d, %d, %v", keysShown(k), x, seq, cookie, a, b, gotOk, epoch, i, ok)
		}
	}
	if !kept() {
		t.Errorf("CheckCookie changed the rows of %s", keysShown(k))
	}
}

// checkTaken checks that a cookie for these arguments is accepted with them.
func checkTaken(t *testing.T, k impl.Keys, a macArgs, cookie int) {
	t.Helper()
	checkAnswer(t, k, a.tuple, a.seq, cookie, a.epoch, a.i, true)
}

func checkRefused(t *testing.T, k impl.Keys, a macArgs, cookie int) {
	t.Helper()
	checkAnswer(t, k, a.tuple, a.seq, cookie, 0, 0, false)
}

func checkFound(t *testing.T, k impl.Keys, x impl.Tuple, seq, cookie int) {
	t.Helper()
	epoch, i, ok := cookieFound(k, x, seq, cookie)
	checkAnswer(t, k, x, seq, cookie, epoch, i, ok)
}

func checkRotated(t *testing.T, k impl.Keys, m impl.Mac, want impl.Keys) {
	t.Helper()
	k, kept := guardedKeys(k)
	rows, keptRows := guarded(m.Rows)
	m.Rows = rows
	for range 2 {
		if got := impl.Rotated(k, m); !equalKeys(got, want) || !impl.SameKeys(got, want) {
			t.Errorf("Rotated(%s, %s) = %s, want %s", keysShown(k), macShown(m), keysShown(got), keysShown(want))
		}
	}
	if !kept() || !keptRows() {
		t.Errorf("Rotated changed the rows of %s or of %s", keysShown(k), macShown(m))
	}
}

// checkSameKeys checks SameKeys of two Keys in both orders.
func checkSameKeys(t *testing.T, a, b impl.Keys, want bool) {
	t.Helper()
	a, keptA := guardedKeys(a)
	for range 2 {
		if impl.SameKeys(a, b) != want || impl.SameKeys(b, a) != want {
			t.Errorf("SameKeys(%s, %s) = %v, and the other way around %v", keysShown(a), keysShown(b), impl.SameKeys(a, b), impl.SameKeys(b, a))
		}
	}
	if !keptA() {
		t.Errorf("SameKeys changed the rows of %s", keysShown(a))
	}
}

func TestKeysOkOfEpochs(t *testing.T) {
	for _, c := range []struct {
		epoch     int
		one, both bool
	}{
		{math.MinInt, false, false}, {math.MinInt + 1, false, false}, {-4294967296, false, false}, {-4294967295, false, false}, {-2, false, false}, {-1, false, false},
		{0, true, false}, {1, true, true}, {2, true, true}, {31, true, true}, {32, true, true}, {33, true, true}, {4294967294, true, true}, {4294967295, true, true},
		{4294967296, false, false}, {4294967297, false, false}, {8589934591, false, false}, {1 << 62, false, false}, {math.MaxInt - 1, false, false}, {math.MaxInt, false, false},
	} {
		for _, m := range someMacs() {
			checkKeysOk(t, impl.Keys{Epoch: c.epoch, Now: m}, c.one)
			checkKeysOk(t, impl.Keys{Epoch: c.epoch, Now: m, Two: true}, c.both)
			checkKeysOk(t, impl.Keys{Epoch: c.epoch, Now: m, Before: m, Two: true}, c.both)
			checkKeysOk(t, impl.Keys{Epoch: c.epoch, Before: m, Two: true}, c.both)
		}
	}
	for bit := range 64 {
		epoch := int(uint64(1) << bit)
		checkKeysOk(t, impl.Keys{Epoch: epoch}, bit < 32)
		checkKeysOk(t, impl.Keys{Epoch: epoch, Two: true}, bit < 32)
		checkKeysOk(t, impl.Keys{Epoch: epoch | 1, Two: true}, bit < 32)
		checkKeysOk(t, impl.Keys{Epoch: -epoch}, false)
		checkKeysOk(t, impl.Keys{Epoch: -epoch, Two: true}, false)
	}
	for _, epoch := range slices.Concat(cookieEpochs, noEpochs, farInts, tupleNumbers) {
		for _, two := range []bool{false, true} {
			k := impl.Keys{Epoch: epoch, Two: two}
			checkKeysOk(t, k, validKeys(k))
		}
	}
}

func TestKeysOkOfMacs(t *testing.T) {
	for _, epoch := range []int{0, 1, 32, mostIp} {
		for _, refused := range refusedMacs() {
			for _, m := range someMacs() {
				checkKeysOk(t, impl.Keys{Epoch: epoch, Now: refused.mac}, false)
				checkKeysOk(t, impl.Keys{Epoch: epoch, Now: refused.mac, Before: m, Two: true}, false)
				checkKeysOk(t, impl.Keys{Epoch: epoch, Now: m, Before: refused.mac}, false)
				checkKeysOk(t, impl.Keys{Epoch: epoch, Now: m, Before: refused.mac, Two: true}, false)
				checkKeysOk(t, impl.Keys{Epoch: epoch, Now: refused.mac, Before: refused.mac, Two: true}, false)
			}
		}
	}
	for _, now := range someMacs() {
		for _, before := range someMacs() {
			checkKeysOk(t, impl.Keys{Epoch: 1, Now: now, Before: before, Two: true}, true)
			checkKeysOk(t, impl.Keys{Epoch: 1, Now: now, Before: before}, equalMacs(before, impl.Mac{}))
		}
	}
}

// Without Two, one field of Before alone is not zero; with Two, it may be.
func TestKeysOkOfTheOtherMac(t *testing.T) {
	for _, c := range []struct {
		before    impl.Mac
		one, both bool
	}{
		{impl.Mac{}, true, true}, {impl.Mac{Rows: []impl.MacRow{}}, true, true}, {impl.Mac{Rows: rowsOf(3)[:0]}, true, true}, {impl.Mac{Rows: rowsOf(3)[3:]}, true, true}, {impl.Mac{Rows: make([]impl.MacRow, 0, 5)}, true, true},
		{impl.Mac{Use: true}, false, true}, {impl.Mac{Use: true, Rows: []impl.MacRow{}}, false, true}, {impl.Mac{K: 1}, false, true}, {impl.Mac{K: 1 << 63}, false, true}, {impl.Mac{K: most}, false, true},
		{impl.Mac{L: 1}, false, true}, {impl.Mac{L: 1 << 63}, false, true}, {impl.Mac{L: most}, false, true}, {impl.Mac{K: 1, L: most}, false, true}, {impl.Mac{K: 1, Rows: []impl.MacRow{}}, false, true},
		{impl.Mac{Rows: []impl.MacRow{{}}}, false, false}, {impl.Mac{Rows: rowsOf(1)}, false, false}, {impl.Mac{Use: true, Rows: []impl.MacRow{{}}}, false, true}, {impl.Mac{Use: true, Rows: rowsOf(64)}, false, true},
	} {
		for _, now := range someMacs() {
			for _, epoch := range []int{1, 2, 32, mostIp} {
				checkKeysOk(t, impl.Keys{Epoch: epoch, Now: now, Before: c.before}, c.one)
				checkKeysOk(t, impl.Keys{Epoch: epoch, Now: now, Before: c.before, Two: true}, c.both)
			}
			checkKeysOk(t, impl.Keys{Now: now, Before: c.before}, c.one)
			checkKeysOk(t, impl.Keys{Now: now, Before: c.before, Two: true}, false)
		}
	}
}

func TestSecretOf(t *testing.T) {
	now, before := tableOf(rowOf("now", 1), rowOf("then", 2)), impl.KeyMac(3, 4)
	for _, epoch := range slices.Concat(cookieEpochs, noEpochs) {
		for _, macs := range [][2]impl.Mac{{now, before}, {before, now}, {now, {}}, {{}, now}, {{}, {}}, {before, impl.KeyMac(4, 3)}, {tableOf(rowsOf(64)...), now}} {
			one, both := impl.Keys{Epoch: epoch, Now: macs[0]}, impl.Keys{Epoch: epoch, Now: macs[0], Before: macs[1], Two: true}
			for _, k := range []impl.Keys{one, both, {Epoch: epoch, Now: macs[0], Before: macs[1]}} {
				checkSecret(t, k, epoch-2, impl.Mac{}, false)
				checkSecret(t, k, epoch, macs[0], true)
				checkSecret(t, k, epoch+1, impl.Mac{}, false)
				checkSecret(t, k, epoch+2, impl.Mac{}, false)
				checkSecret(t, k, epoch^1<<32, impl.Mac{}, false)
				checkSecret(t, k, epoch^math.MinInt, impl.Mac{}, false)
				checkSecret(t, k, epoch-32, impl.Mac{}, false)
				checkSecret(t, k, epoch+32, impl.Mac{}, false)
				checkSecret(t, k, epoch+31, impl.Mac{}, false)
			}
			checkSecret(t, one, epoch-1, impl.Mac{}, false)
			checkSecret(t, both, epoch-1, macs[1], true)
			// What is in Before without Two is no secret.
			checkSecret(t, impl.Keys{Epoch: epoch, Now: macs[0], Before: macs[1]}, epoch-1, impl.Mac{}, false)
		}
	}
	// The Macs that MacOk refuses are secrets, too.
	for _, refused := range refusedMacs() {
		for _, epoch := range []int{math.MinInt, -1, 0, 1, 33, mostIp, mostIp + 1, math.MaxInt} {
			checkSecret(t, impl.Keys{Epoch: epoch, Now: refused.mac, Before: now}, epoch, refused.mac, true)
			checkSecret(t, impl.Keys{Epoch: epoch, Now: refused.mac, Before: now, Two: true}, epoch, refused.mac, true)
			checkSecret(t, impl.Keys{Epoch: epoch, Now: now, Before: refused.mac, Two: true}, epoch-1, refused.mac, true)
			checkSecret(t, impl.Keys{Epoch: epoch, Now: now, Before: refused.mac}, epoch-1, impl.Mac{}, false)
			checkSecret(t, impl.Keys{Epoch: epoch, Now: refused.mac, Before: refused.mac, Two: true}, epoch-2, impl.Mac{}, false)
		}
	}
}

// Beside epoch 0 there is -1, which only wrong keys have a secret of.
func TestSecretOfTheFirstEpoch(t *testing.T) {
	now, before := impl.KeyMac(1, 2), impl.KeyMac(3, 4)
	for _, epoch := range []int{-1, -2, 1, mostIp, mostIp - 1, mostIp + 1, 31, 32, math.MinInt, math.MaxInt} {
		checkSecret(t, impl.Keys{Now: now}, epoch, impl.Mac{}, false)
	}
	checkSecret(t, impl.Keys{Now: now}, 0, now, true)
	checkSecret(t, impl.Keys{}, 0, impl.Mac{}, true)
	checkSecret(t, impl.Keys{}, -1, impl.Mac{}, false)
	checkSecret(t, impl.Keys{Now: now, Before: before, Two: true}, -1, before, true)
	checkSecret(t, impl.Keys{Now: now, Before: before, Two: true}, mostIp, impl.Mac{}, false)
	checkSecret(t, impl.Keys{Epoch: 1, Now: now, Before: before, Two: true}, 0, before, true)
	checkSecret(t, impl.Keys{Epoch: 1, Now: now}, 0, impl.Mac{}, false)
	for _, epoch := range slices.Concat(cookieEpochs, farInts, tupleNumbers) {
		for _, other := range slices.Concat(cookieEpochs, farInts) {
			for _, two := range []bool{false, true} {
				k := impl.Keys{Epoch: epoch, Now: now, Before: before, Two: two}
				want, ok := secretIn(k, other)
				if got, gotOk := impl.SecretOf(k, other); gotOk != ok || !equalMacs(got, want) {
					t.Errorf("SecretOf(%s, %d) = %s, %v", keysShown(k), other, macShown(got), gotOk)
				}
			}
		}
	}
}

func TestCookieOfTables(t *testing.T) {
	for _, c := range []struct{ epoch, i, tag, want int }{
		{0, 0, 0, 0}, {0, 0, 1, 1}, {0, 0, 16777215, 16777215}, {0, 1, 0, 16777216}, {0, 7, 0, 117440512}, {0, 7, 16777215, 134217727}, {0, 5, 9, 83886089},
		{1, 0, 0, 134217728}, {1, 0, 1, 134217729}, {2, 3, 4, 318767108}, {30, 0, 0, 4026531840}, {31, 0, 0, 4160749568}, {31, 0, 16777215, 4177526783}, {31, 7, 0, 4278190080}, {31, 7, 1, 4278190081}, {31, 7, 16777215, 4294967295},
		{32, 0, 0, 0}, {32, 7, 16777215, 134217727}, {33, 0, 0, 134217728}, {33, 5, 9, 218103817}, {63, 0, 0, 4160749568}, {63, 7, 16777215, 4294967295}, {64, 0, 0, 0}, {64, 2, 1, 33554433},
		{4294967295, 0, 0, 4160749568}, {4294967295, 7, 16777215, 4294967295}, {4294967294, 7, 16777215, 4160749567}, {4294967264, 0, 1, 1},
	} {
		for _, base := range baseArgs {
			a := macArgs{base.tuple, base.seq, c.epoch, c.i}
			checkCookieOf(t, tableOf(rowOf(textOf(a), c.tag)), a, c.want)
			checkCookieOf(t, tableOf(rowOf("", 7), rowOf("other", 8), rowOf(textOf(a), c.tag)), a, c.want)
			// Without a row, the tag is 0.
			checkCookieOf(t, tableOf(), a, c.want-c.tag)
			checkCookieOf(t, tableOf(rowOf("", 5), rowOf(textOf(a)+"\x00", 6), rowOf(textOf(a)[1:], 7)), a, c.want-c.tag)
		}
	}
	for _, epoch := range []int{0, 31, 32, 33, 63, 64, 4294967295} {
		for i := range 8 {
			for _, tag := range tagValues {
				a := peerArgs(epoch, i)
				checkCookieOf(t, tableFrom(tag, a), a, epoch%32*134217728+i*16777216+tag)
			}
		}
	}
}

// The cookies of keys, as another program has computed them.
func TestCookieOfKeys(t *testing.T) {
	for _, c := range []struct{ epoch, zero, small, known int }{
		{0, 1237624, 94867706, 117799683}, {1, 142899424, 225711301, 251878903}, {31, 4161157252, 4256499276, 4294680536}, {32, 13082118, 91986583, 121896418},
		{33, 146524727, 219227415, 264802891}, {63, 4167981210, 4256344264, 4287007424}, {64, 8368999, 91576229, 127558522}, {4294967295, 4171694856, 4258636128, 4287441556},
	} {
		checkCookieOf(t, impl.Mac{}, macArgs{epoch: c.epoch}, c.zero)
		checkCookieOf(t, impl.KeyMac(1, 2), macArgs{tupleWith(258, 3, 80), 7, c.epoch, 5}, c.small)
		checkCookieOf(t, impl.KeyMac(knownK, knownL), macArgs{tupleWith(0xc0a800c7, 40000, 443), 1 << 31, c.epoch, 7}, c.known)
	}
	for seed := range 2000 {
		a, m := someArgs(seed), impl.KeyMac(someWord(seed), someWord(seed+1))
		checkCookieOf(t, m, a, cookieFor(m, a))
		a.epoch = cookieEpochs[seed%len(cookieEpochs)]
		checkCookieOf(t, m, a, a.epoch%32*epochStep+a.i*indexStep+impl.MacOf(m, inputOf(a)))
	}
	for _, m := range slices.Concat(someMacs(), []impl.Mac{tableFrom(1, baseArgs...), tableFrom(mostTag-3, baseArgs...)}) {
		for _, base := range baseArgs {
			checkCookieOf(t, m, base, cookieFor(m, base))
		}
	}
}

// For each reason that MacInput has, there is no cookie, also if the table has a
// tag for no input.
func TestCookieOfNoInput(t *testing.T) {
	macs := slices.Concat(someMacs(), []impl.Mac{tableOf(rowOf("", 1)), {Use: true, K: 1, Rows: []impl.MacRow{rowOf("", -1)}}, {Rows: []impl.MacRow{rowOf("", 3)}}})
	for at, f := range macFields {
		limit := 1 << f.bits
		for _, base := range baseArgs {
			for _, m := range macs {
				for _, n := range []int{-1, limit} {
					checkCookieOf(t, m, argsWith(base, at, n), -1)
				}
				for _, n := range []int{0, limit - 1} {
					checkCookieOf(t, m, argsWith(base, at, n), cookieFor(m, argsWith(base, at, n)))
				}
			}
			for _, n := range []int{math.MinInt, math.MinInt + 1, -limit - 1, -limit, -limit + 1, -2, limit + 1, 2 * limit, 1 << 62, math.MaxInt - 1, math.MaxInt} {
				checkCookieOf(t, impl.KeyMac(1, 2), argsWith(base, at, n), -1)
			}
			for _, n := range slices.Concat(tupleNumbers, farInts) {
				a := argsWith(base, at, n)
				checkCookieOf(t, impl.KeyMac(1, 2), a, cookieFor(impl.KeyMac(1, 2), a))
			}
		}
	}
}

// A Mac that MacOk refuses has tags like any other.
func TestCookieOfRefusedMacs(t *testing.T) {
	for _, a := range []macArgs{peerArgs(33, 5), peerArgs(0, 0), peerArgs(mostIp, 7)} {
		text, whole := textOf(a), a.epoch%32*epochStep+a.i*indexStep
		for _, c := range []struct {
			m   impl.Mac
			tag int
		}{
			{tableOf(rowOf(text, -1)), 16777215}, {tableOf(rowOf(text, 16777216)), 0}, {tableOf(rowOf(text, 16777221)), 5}, {tableOf(rowOf(text, math.MinInt)), 0}, {tableOf(rowOf(text, math.MaxInt)), 16777215},
			{tableOf(rowOf(text, 3), rowOf(text, 4)), 3}, {tableOf(rowOf("a", 1), rowOf(text, 4), rowOf("a", 2), rowOf(text, 3)), 4}, {tableOf(append(rowsOf(64), rowOf(text, 7))...), 7},
			{impl.Mac{Use: true, K: 1, Rows: []impl.MacRow{rowOf(text, 8)}}, 8}, {impl.Mac{Use: true, L: 1, Rows: []impl.MacRow{rowOf(text, 9)}}, 9}, {impl.Mac{Use: true, K: 1, L: 2}, 0},
			{impl.Mac{K: 1, L: 2, Rows: []impl.MacRow{rowOf(text, 8)}}, impl.MacOf(impl.KeyMac(1, 2), text)},
		} {
			checkCookieOf(t, c.m, a, whole+c.tag)
			checkCookieOf(t, c.m, a, cookieFor(c.m, a))
		}
	}
}

func TestCookieParts(t *testing.T) {
	for _, c := range []struct{ cookie, epoch, i, tag int }{
		{math.MinInt, -1, -1, -1}, {math.MinInt + 1, -1, -1, -1}, {-4294967296, -1, -1, -1}, {-4294967295, -1, -1, -1}, {-16777216, -1, -1, -1}, {-2, -1, -1, -1}, {-1, -1, -1, -1},
		{0, 0, 0, 0}, {1, 0, 0, 1}, {16777214, 0, 0, 16777214}, {16777215, 0, 0, 16777215}, {16777216, 0, 1, 0}, {16777217, 0, 1, 1}, {117440512, 0, 7, 0}, {134217727, 0, 7, 16777215},
		{134217728, 1, 0, 0}, {134217729, 1, 0, 1}, {218103817, 1, 5, 9}, {2147483647, 15, 7, 16777215}, {2147483648, 16, 0, 0}, {4160749568, 31, 0, 0}, {4294967294, 31, 7, 16777214}, {4294967295, 31, 7, 16777215},
		{4294967296, -1, -1, -1}, {4294967297, -1, -1, -1}, {1 << 33, -1, -1, -1}, {1 << 62, -1, -1, -1}, {math.MaxInt - 1, -1, -1, -1}, {math.MaxInt, -1, -1, -1},
	} {
		checkParts(t, c.cookie, c.epoch, c.i, c.tag)
	}
	for epoch := range 32 {
		for i := range 8 {
			for _, tag := range tagValues {
				checkParts(t, epoch*epochStep+i*indexStep+tag, epoch, i, tag)
			}
		}
	}
	for bit := range 64 {
		word := int(uint64(1) << bit)
		switch {
		case bit < 24:
			checkParts(t, word, 0, 0, word)
		case bit < 27:
			checkParts(t, word, 0, 1<<(bit-24), 0)
		case bit < 32:
			checkParts(t, word, 1<<(bit-27), 0, 0)
		default:
			checkParts(t, word, -1, -1, -1)
		}
	}
}

// The parts of a word compose it again, and those of a cookie are what it is
// made of.
func TestCookiePartsCompose(t *testing.T) {
	check := func(word int) {
		t.Helper()
		epoch, i, tag := impl.CookieParts(word)
		if !isWord(epoch, 5) || !isWord(i, 3) || !isWord(tag, 24) || epoch*epochStep+i*indexStep+tag != word {
			t.Errorf("CookieParts(%d) = %d, %d, %d", word, epoch, i, tag)
		}
	}
	for seed := range 20000 {
		check(someInt(seed) & mostIp)
	}
	for word := range 70000 {
		check(word)
		check(mostIp - word)
		check(word << 16 & mostIp)
	}
	for _, n := range slices.Concat(farInts, tupleNumbers) {
		if isWord(n, 32) {
			check(n)
		} else {
			checkParts(t, n, -1, -1, -1)
		}
	}
	for seed := range 3000 {
		a, m := someArgs(seed), impl.KeyMac(someWord(seed), 0)
		checkParts(t, cookieOf(m, a), a.epoch%32, a.i, impl.MacOf(m, inputOf(a)))
	}
	for _, epoch := range cookieEpochs {
		for _, a := range everyIndex(peerArgs(epoch, 0)) {
			for _, tag := range tagValues {
				checkParts(t, cookieOf(tableFrom(tag, a), a), epoch%32, a.i, tag)
			}
		}
	}
}

// macsOf returns Macs for the cookies of an epoch: keys, and tables with tags.
func macsOf(epoch int) []impl.Mac {
	list := everyIndex(peerArgs(epoch, 0))
	return []impl.Mac{
		impl.KeyMac(knownK+uint64(epoch), knownL), impl.KeyMac(uint64(epoch), 0), tableFrom(1, list...), tableFrom(mostTag-7, list...), tableFrom(1000+epoch%32*8, list...),
		tableOf(), {}, tableOf(slices.Concat(rowsOf(5), tableFrom(0, list...).Rows)...),
	}
}

// nextMac returns a table with tags of its own for the cookies of an epoch.
func nextMac(epoch int) impl.Mac {
	return tableFrom(5000000+1000*(epoch%1000), everyIndex(peerArgs(epoch, 0))...)
}

// Cookies of the current epoch are accepted, and those of the one before, and
// then no more.
func TestCookiesAreAccepted(t *testing.T) {
	for _, epoch := range cookieEpochs {
		for _, m := range macsOf(epoch) {
			for _, a := range everyIndex(peerArgs(epoch, 0)) {
				cookie := cookieOf(m, a)
				k := impl.Keys{Epoch: epoch, Now: m}
				both := impl.Keys{Epoch: epoch, Now: m, Before: nextMac(epoch - 1), Two: true}
				checkTaken(t, k, a, cookie)
				if epoch > 0 {
					checkTaken(t, both, a, cookie)
				}
				if epoch > mostIp-3 {
					continue
				}
				k = impl.Rotated(k, nextMac(epoch+1))
				checkTaken(t, k, a, cookie)
				if epoch > 0 {
					checkTaken(t, impl.Rotated(both, impl.KeyMac(8, 9)), a, cookie)
				}
				k = impl.Rotated(k, nextMac(epoch+2))
				checkRefused(t, k, a, cookie)
				checkRefused(t, impl.Rotated(k, m), a, cookie)
			}
		}
	}
}

// Every cookie of a row of epochs is accepted in its own epoch and in the next
// one, and in no other.
func TestCookiesOfDrawnKeys(t *testing.T) {
	for seed := range 1000 {
		first := someArgs(seed)
		first.epoch = min(first.epoch, mostIp-4)
		if seed%4 == 0 {
			first.epoch = seed / 4 % 70
		}
		var macs []impl.Mac
		for at := range 4 {
			macs = append(macs, impl.KeyMac(someWord(4*seed+at), uint64(at)))
		}
		k := impl.Keys{Epoch: first.epoch, Now: macs[0]}
		for now := range macs {
			if now > 0 {
				k = impl.Rotated(k, macs[now])
			}
			for made, m := range macs {
				a := first
				a.epoch += made
				if made == now || made == now-1 {
					checkTaken(t, k, a, cookieOf(m, a))
				} else {
					checkRefused(t, k, a, cookieOf(m, a))
				}
			}
		}
	}
}

// Behind two epochs, the five bits of the epoch are others, so that not even the
// same tag helps; behind 32 of them they are the same again, and the tag decides.
func TestCookiesBehindManyEpochs(t *testing.T) {
	for _, first := range []int{0, 1, 30, 31, 32, 33, 1000, mostIp - 71} {
		for _, a := range everyIndex(peerArgs(first, 0)) {
			start := impl.Keys{Epoch: first, Now: tableFrom(77, a)}
			cookie := cookieOf(start.Now, a)
			same, other := start, start
			for behind := range 71 {
				if behind > 0 {
					later := peerArgs(first+behind, a.i)
					same = impl.Rotated(same, tableFrom(77, later))
					other = impl.Rotated(other, tableFrom(78, later))
				}
				if behind%32 < 2 {
					checkTaken(t, same, peerArgs(first+behind-behind%32, a.i), cookie)
				} else {
					checkRefused(t, same, a, cookie)
				}
				if behind < 2 {
					checkTaken(t, other, a, cookie)
				} else {
					checkRefused(t, other, a, cookie)
				}
			}
		}
	}
}

// In epoch 0, there is no epoch before: not -1, and not the last one, although
// both have the bits of epoch 31.
func TestTheFirstEpoch(t *testing.T) {
	for _, m := range macsOf(0) {
		k := impl.Keys{Now: m}
		for i := range 8 {
			a := peerArgs(0, i)
			cookie := cookieOf(m, a)
			checkTaken(t, k, a, cookie)
			// With Two, the keys are wrong in epoch 0.
			for _, before := range []impl.Mac{{}, m, impl.KeyMac(1, 2), tableOf()} {
				wrong := impl.Keys{Now: m, Before: before, Two: true}
				checkRefused(t, wrong, a, cookie)
				for _, epoch := range []int{31, 32, mostIp} {
					checkRefused(t, wrong, a, cookieOf(before, peerArgs(epoch, i)))
				}
			}
			for _, epoch := range []int{1, 31, 33, 63, 95, mostIp, mostIp - 32} {
				for _, other := range []impl.Mac{m, {}, tableOf(), tableFrom(tagOf(m, textOf(a)), peerArgs(epoch, i))} {
					checkRefused(t, k, a, cookieOf(other, peerArgs(epoch, i)))
				}
			}
			checkRefused(t, k, a, 31*epochStep+i*indexStep)
			checkRefused(t, k, a, -epochStep+i*indexStep)
		}
	}
}

// In epoch 1, epoch 0 is the one before, if there is a key of it.
func TestTheEpochAfterTheFirst(t *testing.T) {
	now := nextMac(1)
	for _, before := range macsOf(0) {
		both := impl.Keys{Epoch: 1, Now: now, Before: before, Two: true}
		for i := range 8 {
			a := peerArgs(0, i)
			cookie := cookieOf(before, a)
			checkTaken(t, both, a, cookie)
			checkTaken(t, both, peerArgs(1, i), cookieOf(now, peerArgs(1, i)))
			checkTaken(t, impl.Rotated(impl.Keys{Now: before}, now), a, cookie)
			checkTaken(t, impl.Keys{Epoch: 1, Now: now}, peerArgs(1, i), cookieOf(now, peerArgs(1, i)))
			// Without Two, the zero Mac is no key of epoch 0, nor is the current one.
			for _, m := range []impl.Mac{{}, tableOf(), now, before} {
				checkRefused(t, impl.Keys{Epoch: 1, Now: now}, a, cookieOf(m, a))
				checkRefused(t, impl.Keys{Epoch: 1}, a, cookieOf(m, a))
			}
			checkRefused(t, impl.Keys{Epoch: 1, Now: before}, a, cookie)
			checkRefused(t, impl.Rotated(both, before), a, cookie)
			for _, epoch := range []int{31, 63, mostIp} {
				checkRefused(t, both, a, cookieOf(before, peerArgs(epoch, i)))
				checkRefused(t, both, a, cookieOf(now, peerArgs(epoch, i)))
			}
		}
	}
}

// The last epoch is not followed by the first one.
func TestTheLastEpoch(t *testing.T) {
	now, before := nextMac(mostIp), nextMac(mostIp-1)
	k := impl.Rotated(impl.Keys{Epoch: mostIp - 1, Now: before}, now)
	if k.Epoch != mostIp || !k.Two {
		t.Errorf("the keys of the last epoch are %s", keysShown(k))
	}
	for i := range 8 {
		last, first := peerArgs(mostIp, i), peerArgs(0, i)
		for _, keys := range []impl.Keys{k, impl.Rotated(k, nextMac(0)), impl.Rotated(impl.Rotated(k, now), before)} {
			checkTaken(t, keys, last, cookieOf(now, last))
			checkTaken(t, keys, peerArgs(mostIp-1, i), cookieOf(before, peerArgs(mostIp-1, i)))
			for _, m := range []impl.Mac{now, before, nextMac(0), {}, tableOf()} {
				checkRefused(t, keys, first, cookieOf(m, first))
				checkRefused(t, keys, first, cookieOf(m, peerArgs(1, i)))
				checkRefused(t, keys, first, cookieOf(m, peerArgs(mostIp-2, i)))
			}
			checkRefused(t, keys, last, cookieOf(before, last))
			checkRefused(t, keys, last, cookieOf(now, peerArgs(mostIp-1, i)))
		}
		checkTaken(t, impl.Keys{Epoch: mostIp, Now: now}, last, cookieOf(now, last))
		checkRefused(t, impl.Keys{Epoch: mostIp, Now: now}, last, cookieOf(now, peerArgs(mostIp-1, i)))
	}
}

// confusedKeys are keys with tags that no two cookies have in common, as keyed
// hashes and as tables.
func confusedKeys(epoch int) []impl.Keys {
	hashed := impl.Keys{Epoch: epoch, Now: impl.KeyMac(knownK, knownL), Before: impl.KeyMac(knownL, knownK), Two: true}
	tabled := impl.Keys{Epoch: epoch, Now: tableFrom(100, everyIndex(peerArgs(epoch, 0))...), Before: tableFrom(200, everyIndex(peerArgs(epoch-1, 0))...), Two: true}
	return []impl.Keys{
		hashed, tabled, {Epoch: epoch, Now: hashed.Now, Before: tabled.Before, Two: true}, {Epoch: epoch, Now: tabled.Now, Before: hashed.Before, Two: true},
		{Epoch: epoch, Now: hashed.Now}, {Epoch: epoch, Now: tabled.Now},
	}
}

// nearArgs are arguments of which one is nearly that of a.
func nearArgs(a macArgs) []macArgs {
	var list []macArgs
	for at, f := range macFields[:4] {
		n := *f.field(&a)
		for bit := range f.bits {
			list = append(list, argsWith(a, at, n^1<<bit))
		}
		for _, m := range []int{n - 1, n + 1, 0, 1 << (f.bits - 1), 1<<f.bits - 1} {
			list = append(list, argsWith(a, at, m))
		}
	}
	x := a.tuple
	return append(list, macArgs{tupleWith(x.Ip, x.My, x.Port), a.seq, a.epoch, a.i}, macArgs{tupleWith(a.seq, x.Port, x.My), x.Ip, a.epoch, a.i})
}

// A cookie with one bit changed is none, whichever bit it is.
func TestCookiesWithOneBitChanged(t *testing.T) {
	for _, epoch := range []int{1, 2, 31, 32, 33, 64, 1000, mostIp} {
		for _, k := range confusedKeys(epoch) {
			for i := range 8 {
				a, b := peerArgs(epoch, i), peerArgs(epoch-1, i)
				cookie, older := cookieOf(k.Now, a), cookieOf(k.Before, b)
				checkTaken(t, k, a, cookie)
				checkAnswer(t, k, b.tuple, b.seq, older, numberIf(k.Two, b.epoch), numberIf(k.Two, i), k.Two)
				for bit := range 32 {
					checkRefused(t, k, a, cookie^1<<bit)
					checkRefused(t, k, b, older^1<<bit)
				}
				for bit := 32; bit < 64; bit++ {
					checkRefused(t, k, a, int(uint64(cookie)^1<<bit))
				}
				for _, n := range []int{-1, 1, indexStep, -indexStep, epochStep, -epochStep, 1 << 32, -1 << 32} {
					checkRefused(t, k, a, cookie+n)
				}
			}
		}
	}
}

// numberIf returns n if it counts, and 0 otherwise.
func numberIf(counts bool, n int) int {
	if counts {
		return n
	}
	return 0
}

// A cookie for another peer or another seq is none.
func TestCookiesOfOtherPeers(t *testing.T) {
	for _, epoch := range []int{1, 32, 33, mostIp} {
		for _, k := range confusedKeys(epoch) {
			for i := range 8 {
				for _, a := range nearArgs(peerArgs(epoch, i)) {
					same := a == peerArgs(epoch, i)
					before := a
					before.epoch--
					checkAnswer(t, k, a.tuple, a.seq, cookieOf(k.Now, peerArgs(epoch, i)), numberIf(same, epoch), numberIf(same, i), same)
					checkAnswer(t, k, a.tuple, a.seq, cookieOf(k.Before, peerArgs(epoch-1, i)), numberIf(same && k.Two, epoch-1), numberIf(same && k.Two, i), same && k.Two)
					// And the other way around.
					if cookie := cookieOf(k.Now, a); cookie >= 0 && !same {
						checkRefused(t, k, peerArgs(epoch, i), cookie)
					}
					if cookie := cookieOf(k.Before, before); cookie >= 0 && !same {
						checkRefused(t, k, peerArgs(epoch, i), cookie)
					}
				}
			}
		}
	}
}

// A cookie with the Mac of the other epoch is none, nor is one that was made for
// another epoch with the same five bits, or with others.
func TestCookiesOfOtherEpochs(t *testing.T) {
	for _, epoch := range []int{1, 31, 32, 33, 34, 64, 65, 1000, mostIp - 32, mostIp} {
		for _, k := range confusedKeys(epoch) {
			for i := range 8 {
				a, b := peerArgs(epoch, i), peerArgs(epoch-1, i)
				checkRefused(t, k, a, cookieOf(k.Before, a))
				checkRefused(t, k, a, cookieOf(k.Now, b))
				for _, other := range []int{epoch - 64, epoch - 33, epoch - 32, epoch - 31, epoch - 2, epoch + 1, epoch + 31, epoch + 32, epoch + 33, epoch + 64, epoch ^ 32, epoch ^ half} {
					for _, m := range []impl.Mac{k.Now, k.Before} {
						if isWord(other, 32) && other != epoch-1 {
							checkRefused(t, k, a, cookieOf(m, peerArgs(other, i)))
						}
					}
				}
			}
		}
	}
	// With tables, the tag that another epoch gave may be right by coincidence.
	for _, epoch := range []int{33, 34, 64, 1000, mostIp - 32} {
		for i := range 8 {
			for _, away := range []int{-32, 32} {
				other := peerArgs(epoch+away, i)
				k := impl.Keys{Epoch: epoch, Now: tableFrom(300, other, peerArgs(epoch, i)), Before: tableFrom(400, peerArgs(epoch-1, i)), Two: true}
				cookie := cookieOf(k.Now, other)
				checkRefused(t, k, other, cookie)
				checkTaken(t, k, peerArgs(epoch, i), cookie+1)
				k.Now.Rows[1].Value = 300
				checkTaken(t, k, peerArgs(epoch, i), cookie)
				other.epoch--
				cookie = cookieOf(tableFrom(401, other), other)
				checkRefused(t, k, other, cookie)
				k.Before.Rows[0].Value = 401
				checkTaken(t, k, peerArgs(epoch-1, i), cookie)
				k.Two, k.Before = false, impl.Mac{}
				checkRefused(t, k, other, cookie)
			}
		}
	}
}

// Of all words with these tags, exactly those are accepted whose epoch, index and
// tag are right, for each peer.
func TestAllCookiesOfTables(t *testing.T) {
	for _, epoch := range []int{0, 1, 2, 31, 32, 33, 1000, mostIp} {
		for _, two := range []bool{false, true} {
			k := impl.Keys{Epoch: epoch, Now: tableFrom(1, everyIndex(peerArgs(epoch, 0))...), Two: two}
			if two {
				// The tags of both epochs are partly the same.
				k.Before = tableFrom(4, everyIndex(peerArgs(epoch-1, 0))[:6]...)
			}
			taken := 0
			for low := range 32 {
				for i := range 8 {
					for _, tag := range []int{0, 1, 2, 3, 4, 5, 6, 7, 8, 9, 10, 257, 65537, mostTag} {
						cookie := low*epochStep + i*indexStep + tag
						wantEpoch, wantI, want := 0, 0, false
						switch {
						case !validKeys(k):
						case low == epoch%32 && tag == 1+i:
							wantEpoch, wantI, want = epoch, i, true
						case two && low == (epoch-1)%32 && (tag == 4+i && i < 6 || tag == 0 && i >= 6):
							wantEpoch, wantI, want = epoch-1, i, true
						}
						if gotEpoch, gotI, got := impl.CheckCookie(k, cookiePeer, cookieSeq, cookie); gotEpoch != wantEpoch || gotI != wantI || got != want {
							t.Errorf("CheckCookie(%s, .., %#x) = %d, %d, %v", keysShown(k), cookie, gotEpoch, gotI, got)
						}
						if want {
							taken++
						}
					}
				}
			}
			if want := map[bool]int{false: 8, true: 16}[two]; taken != want && validKeys(k) {
				t.Errorf("%d words are cookies of %s", taken, keysShown(k))
			}
		}
	}
}

// Without rows, every tag is 0: such a cookie is right for every peer.
func TestCookiesOfEmptyTables(t *testing.T) {
	for seed := range 500 {
		a := someArgs(seed)
		a.epoch = max(a.epoch, 1)
		k := impl.Keys{Epoch: a.epoch, Now: tableOf(), Before: tableOf(), Two: true}
		low, before := a.epoch%32, (a.epoch-1)%32
		checkTaken(t, k, a, low*epochStep+a.i*indexStep)
		a.epoch--
		checkTaken(t, k, a, before*epochStep+a.i*indexStep)
		checkRefused(t, k, a, before*epochStep+a.i*indexStep+1)
		checkRefused(t, k, a, (before+2)%32*epochStep+a.i*indexStep)
		checkRefused(t, k, a, (before+31)%32*epochStep+a.i*indexStep)
		checkRefused(t, impl.Keys{Epoch: a.epoch + 1, Now: tableOf()}, a, before*epochStep+a.i*indexStep)
	}
}

// wrongKeys are keys that KeysOk refuses for one reason each, in the epoch or,
// where the epoch itself is wrong, with its lowest bits.
func wrongKeys(epoch int) []impl.Keys {
	now, before := tableFrom(10, everyIndex(peerArgs(epoch, 0))...), tableFrom(20, everyIndex(peerArgs(epoch-1, 0))...)
	list := []impl.Keys{
		{Epoch: epoch, Now: now, Before: impl.Mac{Use: true}}, {Epoch: epoch, Now: now, Before: impl.Mac{K: 1}}, {Epoch: epoch, Now: now, Before: impl.Mac{L: 1}}, {Epoch: epoch, Now: now, Before: before},
		{Now: tableFrom(10, everyIndex(peerArgs(0, 0))...), Before: before, Two: true}, {Now: now, Two: true},
	}
	for _, n := range noEpochs {
		list = append(list, impl.Keys{Epoch: n, Now: now}, impl.Keys{Epoch: n, Now: now, Before: before, Two: true})
	}
	// The wrong Macs still have the tags of the cookies.
	for _, two := range []bool{false, true} {
		good := impl.Keys{Epoch: epoch, Now: now, Two: two}
		if two {
			good.Before = before
		}
		for _, spoil := range []func(m *impl.Mac){
			func(m *impl.Mac) { m.K = 1 }, func(m *impl.Mac) { m.L = 1 },
			func(m *impl.Mac) { m.Rows = append(slices.Clone(m.Rows), rowsOf(60)...) },
			func(m *impl.Mac) { m.Rows = append(slices.Clone(m.Rows), m.Rows[0]) },
			func(m *impl.Mac) { m.Rows = append(slices.Clone(m.Rows), rowOf("a", -1)) },
			func(m *impl.Mac) { m.Rows = append(slices.Clone(m.Rows), rowOf("a", tags)) },
			func(m *impl.Mac) { *m = impl.Mac{K: 1, L: 2, Rows: rowsOf(1)} },
		} {
			k := good
			spoil(&k.Now)
			list = append(list, k)
			k = good
			k.Before = before
			spoil(&k.Before)
			list = append(list, k)
		}
	}
	return list
}

// With keys that are refused, no cookie is accepted, right as it may be.
func TestCheckCookieOfWrongKeys(t *testing.T) {
	for _, epoch := range []int{1, 33, mostIp} {
		for _, k := range wrongKeys(epoch) {
			checkKeysOk(t, k, false)
			for i := range 8 {
				for _, made := range []int{0, epoch, epoch - 1} {
					for _, m := range []impl.Mac{k.Now, k.Before} {
						checkRefused(t, k, peerArgs(made, i), cookieOf(m, peerArgs(made, i)))
					}
				}
				for low := range 32 {
					checkRefused(t, k, peerArgs(epoch, i), low*epochStep+i*indexStep)
					checkRefused(t, k, peerArgs(epoch, i), low*epochStep+i*indexStep+10+i)
				}
			}
			checkRefused(t, k, peerArgs(epoch, 0), -1)
		}
	}
}

// A cookie that is no word, a Tuple that is none, and a seq that is none, each
// alone beside what is right.
func TestCheckCookieOfNoWords(t *testing.T) {
	for _, epoch := range []int{0, 1, 32, mostIp} {
		keys := append(confusedKeys(max(epoch, 1)), impl.Keys{Epoch: epoch}, impl.Keys{Epoch: epoch, Now: tableOf()})
		for _, k := range keys {
			for _, cookie := range []int{math.MinInt, math.MinInt + 1, -1 << 32, -2, -1, 1 << 32, 1<<32 + 1, 1<<33 - 1, 1 << 62, math.MaxInt - 1, math.MaxInt} {
				for _, a := range baseArgs {
					checkAnswer(t, k, a.tuple, a.seq, cookie, 0, 0, false)
				}
				// CookieOf has the same -1 for what has no input.
				checkAnswer(t, k, tupleWith(-1, 0, 0), 0, cookie, 0, 0, false)
				checkAnswer(t, k, cookiePeer, -1, cookie, 0, 0, false)
			}
			for i := range 8 {
				cookie := cookieOf(k.Now, peerArgs(k.Epoch, i))
				checkTaken(t, k, peerArgs(k.Epoch, i), cookie)
				for at, f := range macFields[:4] {
					for _, n := range []int{math.MinInt, -1<<f.bits + 5, -1, 1 << f.bits, 1<<f.bits | *f.field(&macArgs{cookiePeer, cookieSeq, 0, 0}), math.MaxInt} {
						checkRefused(t, k, argsWith(peerArgs(k.Epoch, i), at, n), cookie)
						for _, word := range []int{0, 1, mostIp, k.Epoch%32*epochStep + i*indexStep} {
							checkRefused(t, k, argsWith(peerArgs(k.Epoch, i), at, n), word)
						}
					}
				}
			}
		}
	}
	for seed := range 3000 {
		a, k := someArgs(seed), impl.Keys{Epoch: seed % 70, Now: tableOf(), Two: seed%2 == 0}
		checkFound(t, k, a.tuple, a.seq, someInt(seed)&^mostTag)
		checkFound(t, k, a.tuple, a.seq, someInt(seed)&mostIp)
		checkFound(t, k, tupleWith(a.tuple.Ip, someInt(seed), a.tuple.My), someInt(seed+1), k.Epoch%32*epochStep)
	}
}

func TestRotated(t *testing.T) {
	for _, epoch := range cookieEpochs {
		for at, now := range someMacs() {
			for _, m := range someMacs() {
				one := impl.Keys{Epoch: epoch, Now: now}
				both := impl.Keys{Epoch: epoch, Now: now, Before: someMacs()[(at+5)%8], Two: true}
				want := impl.Keys{Epoch: epoch + 1, Now: m, Before: now, Two: true}
				if epoch == mostIp {
					checkRotated(t, one, m, one)
					checkRotated(t, both, m, both)
					continue
				}
				checkRotated(t, one, m, want)
				checkKeysOk(t, want, true)
				if epoch > 0 {
					checkRotated(t, both, m, want)
				}
				if epoch < mostIp-1 {
					checkRotated(t, impl.Rotated(one, m), impl.KeyMac(6, 7), impl.Keys{Epoch: epoch + 2, Now: impl.KeyMac(6, 7), Before: m, Two: true})
				}
			}
		}
	}
	// In the last epoch but one, there is one rotation left.
	k := impl.Rotated(impl.Rotated(impl.Keys{Epoch: mostIp - 1}, impl.KeyMac(1, 1)), impl.KeyMac(2, 2))
	checkSameKeys(t, k, impl.Keys{Epoch: mostIp, Now: impl.KeyMac(1, 1), Two: true}, true)
}

func TestRotatedFortyTimes(t *testing.T) {
	for _, first := range []int{0, 1, 31, 1000, mostIp - 40, mostIp - 39, mostIp - 1, mostIp} {
		k := impl.Keys{Epoch: first, Now: impl.KeyMac(0, 7)}
		for n := 1; n <= 40; n++ {
			m := impl.KeyMac(uint64(n), 7)
			if n%3 == 0 {
				m = tableOf(rowsOf(n)...)
			}
			before := k
			k = impl.Rotated(k, m)
			if first+n > mostIp {
				checkSameKeys(t, k, before, true)
				continue
			}
			if k.Epoch != first+n || !k.Two || !equalMacs(k.Now, m) || !equalMacs(k.Before, before.Now) || !impl.KeysOk(k) {
				t.Errorf("behind %d rotations, the keys are %s", n, keysShown(k))
			}
		}
	}
}

// Keys that are refused, and keys beside a Mac that is refused, are unchanged,
// whatever they are.
func TestRotatedUnchanged(t *testing.T) {
	for _, epoch := range []int{1, 33, mostIp} {
		for _, k := range wrongKeys(epoch) {
			for _, m := range someMacs() {
				checkRotated(t, k, m, k)
			}
			checkRotated(t, k, refusedMacs()[0].mac, k)
		}
	}
	for _, k := range []impl.Keys{{}, {Epoch: 1}, {Now: tableOf(rowsOf(3)...)}, {Epoch: 1, Two: true}, {Epoch: 33, Now: impl.KeyMac(1, 2), Before: tableOf(rowsOf(64)...), Two: true}, {Epoch: mostIp - 1, Now: tableOf(rowsOf(3)...)}} {
		checkKeysOk(t, k, true)
		for _, refused := range refusedMacs() {
			checkRotated(t, k, refused.mac, k)
		}
		k.Epoch = mostIp
		checkKeysOk(t, k, true)
		for _, m := range someMacs() {
			checkRotated(t, k, m, k)
		}
	}
	for _, epoch := range slices.Concat(cookieEpochs, noEpochs, farInts) {
		for _, two := range []bool{false, true} {
			k, m := impl.Keys{Epoch: epoch, Now: impl.KeyMac(1, 2), Two: two}, tableOf(rowsOf(2)...)
			checkRotated(t, k, m, rotatedKeys(k, m))
		}
	}
}

// macChanges change one field of a Mac with two rows each.
var macChanges = []func(m *impl.Mac){
	func(m *impl.Mac) { m.Use = !m.Use }, func(m *impl.Mac) { m.K++ }, func(m *impl.Mac) { m.L++ }, func(m *impl.Mac) { m.K ^= 1 << 63 }, func(m *impl.Mac) { m.L ^= 1 << 32 },
	func(m *impl.Mac) { m.Rows = nil }, func(m *impl.Mac) { m.Rows = []impl.MacRow{} }, func(m *impl.Mac) { m.Rows = m.Rows[:1] }, func(m *impl.Mac) { m.Rows = m.Rows[1:] },
	func(m *impl.Mac) { m.Rows = append(slices.Clone(m.Rows), impl.MacRow{}) }, func(m *impl.Mac) { m.Rows = []impl.MacRow{m.Rows[1], m.Rows[0]} },
	func(m *impl.Mac) { m.Rows = withInput(m.Rows, 0, "x") }, func(m *impl.Mac) { m.Rows = withInput(m.Rows, 1, "row 1\x00") },
	func(m *impl.Mac) { m.Rows = withValue(m.Rows, 0, m.Rows[0].Value+1) }, func(m *impl.Mac) { m.Rows = withValue(m.Rows, 1, m.Rows[1].Value+tags) },
	func(m *impl.Mac) { m.Rows = []impl.MacRow{m.Rows[0], m.Rows[0]} },
}

func TestSameKeys(t *testing.T) {
	for _, two := range []bool{false, true} {
		base := impl.Keys{Epoch: 5, Now: impl.Mac{Use: true, K: 1, L: 2, Rows: rowsOf(2)}, Before: impl.Mac{K: 3, L: 4, Rows: rowsOf(2)}, Two: two}
		checkSameKeys(t, base, copiedKeys(base), true)
		for _, epoch := range []int{4, 6, -5, 0, 5 + 1<<32, 5 - 1<<32, 37, math.MinInt + 5, math.MaxInt} {
			other := copiedKeys(base)
			other.Epoch = epoch
			checkSameKeys(t, base, other, false)
			checkSameKeys(t, other, copiedKeys(other), true)
		}
		for _, change := range macChanges {
			other := copiedKeys(base)
			change(&other.Now)
			checkSameKeys(t, base, other, false)
			checkSameKeys(t, other, copiedKeys(other), true)
			other = copiedKeys(base)
			change(&other.Before)
			checkSameKeys(t, base, other, false)
			checkSameKeys(t, other, copiedKeys(other), true)
			change(&other.Now)
			checkSameKeys(t, base, other, false)
		}
		other := copiedKeys(base)
		other.Two = !two
		checkSameKeys(t, base, other, false)
		other = copiedKeys(base)
		other.Now, other.Before = other.Before, other.Now
		checkSameKeys(t, base, other, false)
	}
	// Whether keys are right does not count.
	for _, k := range append(wrongKeys(33), impl.Keys{}) {
		checkSameKeys(t, k, copiedKeys(k), true)
		for _, other := range append(wrongKeys(33), impl.Keys{}) {
			checkSameKeys(t, k, other, equalKeys(k, other))
		}
	}
}

func TestSameKeysOfEmptyRows(t *testing.T) {
	empty := [][]impl.MacRow{nil, {}, make([]impl.MacRow, 0, 5), rowsOf(3)[:0], rowsOf(3)[3:]}
	for _, a := range empty {
		for _, b := range empty {
			for _, use := range []bool{false, true} {
				k := impl.Keys{Epoch: 1, Now: impl.Mac{Use: use, Rows: a}, Before: impl.Mac{K: 1, Rows: b}, Two: true}
				other := impl.Keys{Epoch: 1, Now: impl.Mac{Use: use, Rows: b}, Before: impl.Mac{K: 1, Rows: a}, Two: true}
				checkSameKeys(t, k, other, true)
				other.Before.Rows = []impl.MacRow{{}}
				checkSameKeys(t, k, other, false)
				other.Before.Rows, other.Now.Rows = nil, []impl.MacRow{{}}
				checkSameKeys(t, k, other, false)
			}
		}
	}
}

// rowCalls give rows to a function, and take from its result those that have
// been made of them.
var rowCalls = []struct {
	name string
	most int
	call func(rows []impl.MacRow) []impl.MacRow
}{
	{"SecretOf, Now", 200, func(rows []impl.MacRow) []impl.MacRow {
		m, _ := impl.SecretOf(impl.Keys{Epoch: 5, Now: tableOf(rows...)}, 5)
		return m.Rows
	}},
	{"SecretOf, Now of two", 200, func(rows []impl.MacRow) []impl.MacRow {
		m, _ := impl.SecretOf(impl.Keys{Epoch: 5, Now: tableOf(rows...), Before: tableOf(rows...), Two: true}, 5)
		return m.Rows
	}},
	{"SecretOf, Before", 200, func(rows []impl.MacRow) []impl.MacRow {
		m, _ := impl.SecretOf(impl.Keys{Epoch: 5, Before: tableOf(rows...), Two: true}, 4)
		return m.Rows
	}},
	{"Rotated, Now", 64, func(rows []impl.MacRow) []impl.MacRow {
		return impl.Rotated(impl.Keys{Epoch: 5}, tableOf(rows...)).Now.Rows
	}},
	{"Rotated, Before", 64, func(rows []impl.MacRow) []impl.MacRow {
		return impl.Rotated(impl.Keys{Epoch: 5, Now: tableOf(rows...)}, impl.KeyMac(1, 2)).Before.Rows
	}},
	{"Rotated in the last epoch, Now", 64, func(rows []impl.MacRow) []impl.MacRow {
		return impl.Rotated(impl.Keys{Epoch: mostIp, Now: tableOf(rows...)}, impl.Mac{}).Now.Rows
	}},
	{"Rotated in the last epoch, Before", 64, func(rows []impl.MacRow) []impl.MacRow {
		return impl.Rotated(impl.Keys{Epoch: mostIp, Before: tableOf(rows...), Two: true}, impl.Mac{}).Before.Rows
	}},
	{"Rotated of wrong keys, Now", 200, func(rows []impl.MacRow) []impl.MacRow {
		return impl.Rotated(impl.Keys{Epoch: -1, Now: tableOf(rows...)}, impl.Mac{}).Now.Rows
	}},
	{"Rotated of wrong keys, Before", 200, func(rows []impl.MacRow) []impl.MacRow {
		return impl.Rotated(impl.Keys{Before: tableOf(rows...)}, impl.Mac{}).Before.Rows
	}},
	{"Rotated with a wrong Mac, Now", 64, func(rows []impl.MacRow) []impl.MacRow {
		return impl.Rotated(impl.Keys{Epoch: 5, Now: tableOf(rows...)}, tableOf(rowOf("a", -1))).Now.Rows
	}},
	{"Rotated with a wrong Mac, Before", 64, func(rows []impl.MacRow) []impl.MacRow {
		return impl.Rotated(impl.Keys{Epoch: 5, Before: tableOf(rows...), Two: true}, tableOf(rowOf("a", -1))).Before.Rows
	}},
}

// What a function returns and what it was given are changed one without the
// other.
func TestCookieSharesNothing(t *testing.T) {
	for _, c := range rowCalls {
		for _, n := range []int{0, 1, 2, 3, 5, 63, 64, 65, 200} {
			if n > c.most {
				continue
			}
			want := rowsOf(n)
			rows, kept := guarded(want)
			first, second := c.call(rows), c.call(rows)
			if !slices.Equal(first, want) || !slices.Equal(second, want) {
				t.Errorf("%s: the %d rows are others", c.name, n)
				continue
			}
			for i := range n {
				first[i] = rowOf("changed", -i)
			}
			_ = append(first, rowOf("more", 1))
			_ = append(first[:n/2], rowOf("less", 2))
			if !kept() || !slices.Equal(second, want) {
				t.Errorf("%s: a change of the result of %d rows is seen in them or in another result", c.name, n)
			}
			_ = append(second, rowOf("end", 1), rowOf("end", 2), rowOf("end", 3))
			if !kept() {
				t.Errorf("%s: an append to the result of %d rows is seen behind them", c.name, n)
			}
			third := c.call(rows)
			for i := range rows {
				rows[i] = rowOf("changed too", i)
			}
			_ = append(rows, rowOf("grown", 1), rowOf("grown", 2))
			if !slices.Equal(third, want) || slices.ContainsFunc(third[:cap(third)], func(row impl.MacRow) bool { return row.Input == "grown" || row.Input == "changed too" }) {
				t.Errorf("%s: a change of the %d rows is seen in the result", c.name, n)
			}
		}
	}
}

// The two Macs of one result share no memory, although they are one Mac of the
// caller.
func TestRotatedMacsAreApart(t *testing.T) {
	for n := 1; n <= 64; n++ {
		m := tableOf(rowsOf(n)...)
		for _, k := range []impl.Keys{
			impl.Rotated(impl.Keys{Epoch: 5, Now: m}, m), impl.Rotated(impl.Keys{Epoch: mostIp, Now: m, Before: m, Two: true}, m), impl.Rotated(impl.Keys{Now: m, Before: m}, m),
			impl.Rotated(impl.Keys{Epoch: 5, Now: m, Before: m, Two: true}, tableOf(rowOf("a", -1))),
		} {
			k.Now.Rows[n-1] = rowOf("changed", 1)
			k.Before.Rows[0].Value = -7
			_ = append(k.Now.Rows[:0], rowOf("first", 2))
			if k.Before.Rows[n-1].Input != rowsOf(n)[n-1].Input || k.Before.Rows[0].Input == "first" || k.Now.Rows[0].Value == -7 || !slices.Equal(m.Rows, rowsOf(n)) {
				t.Errorf("a change of Now is seen in %s", keysShown(k))
			}
		}
	}
}

// The rows are as they were after every function, as is the memory beside them.
func TestCookieArgumentsUnchanged(t *testing.T) {
	for seed := range 200 {
		k, kept := guardedKeys(impl.Keys{Epoch: seed % 40, Now: tableOf(drawnRows(seed)...), Before: tableOf(drawnRows(seed + 1)...), Two: seed%2 == 0})
		other, keptOther := guardedKeys(impl.Keys{Epoch: seed % 40, Now: tableOf(drawnRows(seed)...), Before: tableOf(drawnRows(seed + 1)...), Two: seed%2 == 0})
		before := k
		for name, call := range map[string]func(){
			"KeysOk":      func() { impl.KeysOk(k) },
			"SecretOf":    func() { impl.SecretOf(k, k.Epoch); impl.SecretOf(k, k.Epoch-1) },
			"CookieOf":    func() { impl.CookieOf(k.Now, cookiePeer, 1, 2, 3); impl.CookieOf(k.Before, cookiePeer, -1, 2, 3) },
			"CheckCookie": func() { impl.CheckCookie(k, cookiePeer, 1, k.Epoch%32*epochStep) },
			"Rotated":     func() { impl.Rotated(k, other.Now); impl.Rotated(k, k.Now); impl.Rotated(other, k.Before) },
			"SameKeys":    func() { impl.SameKeys(k, other); impl.SameKeys(k, k) },
		} {
			call()
			if !kept() || !keptOther() || !equalKeys(k, before) || len(k.Now.Rows) != len(before.Now.Rows) {
				t.Errorf("%s changed %s", name, keysShown(k))
			}
		}
	}
}

// Every function returns, and returns the same again, whatever it is given.
func TestCookieIsTotal(t *testing.T) {
	defer func() {
		if r := recover(); r != nil {
			t.Fatalf("panic: %v", r)
		}
	}()
	for at, n := range farInts {
		for other, m := range farInts {
			for _, rows := range [][]impl.MacRow{nil, {}, {rowOf("", n), rowOf(someBytes(at, other), m)}, {rowOf("a", 1), rowOf("a", 2)}} {
				for _, use := range []bool{false, true} {
					mac := impl.Mac{Use: use, K: uint64(at % 2), Rows: rows}
					k := impl.Keys{Epoch: n, Now: mac, Before: impl.Mac{Use: !use, Rows: rows}, Two: other%2 == 0}
					checkKeysOk(t, k, validKeys(k))
					secret, ok := secretIn(k, m)
					checkSecret(t, k, m, secret, ok)
					checkFound(t, k, tupleWith(m, other, 80), n, m)
					checkRotated(t, k, mac, rotatedKeys(k, mac))
					checkSameKeys(t, k, copiedKeys(k), true)
					for _, a := range []macArgs{{tupleWith(n, m, n), m, n, m}, {cookiePeer, n, m, at % 9}, {tupleWith(m, 1, 2), n, 3, 4}} {
						checkCookieOf(t, mac, a, cookieFor(mac, a))
					}
				}
			}
		}
	}
	huge := tableOf(rowsOf(100000)...)
	k := impl.Keys{Epoch: 5, Now: huge, Before: huge, Two: true}
	checkKeysOk(t, k, false)
	checkSecret(t, k, 4, huge, true)
	checkRefused(t, k, peerArgs(5, 0), 5*epochStep)
	checkRotated(t, k, impl.Mac{}, k)
	checkRotated(t, impl.Keys{}, huge, impl.Keys{})
}

// The same call answers the same, however often it is repeated.
func TestCookiesRepeat(t *testing.T) {
	now := tableFrom(3, everyIndex(peerArgs(33, 0))...)
	k := impl.Rotated(impl.Keys{Epoch: 32, Now: impl.KeyMac(knownK, knownL)}, now)
	cookie := cookieOf(impl.KeyMac(knownK, knownL), peerArgs(32, 6))
	for range 2000 {
		epoch, i, ok := impl.CheckCookie(k, cookiePeer, cookieSeq, cookie)
		if epoch != 32 || i != 6 || !ok || cookieOf(impl.KeyMac(knownK, knownL), peerArgs(32, 6)) != cookie {
			t.Fatalf("CheckCookie(%s, .., %#x) = %d, %d, %v", keysShown(k), cookie, epoch, i, ok)
		}
		m, ok := impl.SecretOf(k, 33)
		if !ok || !impl.SameMac(m, now) || !impl.KeysOk(k) || !impl.SameKeys(impl.Rotated(k, m), impl.Keys{Epoch: 34, Now: now, Before: now, Two: true}) {
			t.Fatalf("SecretOf(%s, 33) = %s, %v", keysShown(k), macShown(m), ok)
		}
	}
}

// No call depends on other calls, before it or at the same time.
func TestCookieKeepsNothing(t *testing.T) {
	shared := impl.Keys{Epoch: 33, Now: tableFrom(1, everyIndex(peerArgs(33, 0))...), Before: tableFrom(9, everyIndex(peerArgs(32, 0))...), Two: true}
	checkAtOnce(t, func(worker int, faults map[string]int) {
		for n := range 500 {
			a, i := someArgs(n+31*worker), (n+worker)%8
			mine := impl.Keys{Epoch: a.epoch, Now: impl.KeyMac(someWord(n), uint64(worker))}
			if epoch, index, ok := impl.CheckCookie(shared, cookiePeer, cookieSeq, 1*epochStep+i*indexStep+1+i); epoch != 33 || index != i || !ok {
				faults["CheckCookie of the current epoch"]++
			}
			if epoch, index, ok := impl.CheckCookie(shared, cookiePeer, cookieSeq, i*indexStep+9+i); epoch != 32 || index != i || !ok {
				faults["CheckCookie of the epoch before"]++
			}
			if epoch, index, ok := impl.CheckCookie(mine, a.tuple, a.seq, cookieOf(mine.Now, a)); epoch != a.epoch || index != a.i || !ok {
				faults["CheckCookie"]++
			}
			if m, ok := impl.SecretOf(shared, 32); !ok || !equalMacs(m, shared.Before) || impl.KeysOk(impl.Keys{Epoch: -n - 1}) {
				faults["SecretOf"]++
			}
			if k := impl.Rotated(shared, mine.Now); !impl.SameKeys(k, impl.Keys{Epoch: 34, Now: mine.Now, Before: shared.Now, Two: true}) {
				faults["Rotated"]++
			}
		}
	})
}
