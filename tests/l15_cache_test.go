package tests

import (
	"fmt"
	"math"
	"math/big"
	"slices"
	"testing"

	"loop.example/g00504/impl"
)

// The limits of a cache, as numbers of their own.
const (
	mostArps = 4
	mostAge  = 9
)

var (
	goodIps  = []int{0, 1, 2, 255, 256, 65535, 1<<31 - 1, 1 << 31, mostIp - 1, mostIp}
	badIps   = []int{math.MinInt, math.MinInt + 1, math.MinInt + 5, -1 << 32, -1<<32 + 5, -mostIp, -1 << 31, -256, -2, -1, mostIp + 1, mostIp + 2, 1<<32 + 5, 1<<33 - 1, 1 << 40, mostHw, mostHw + 1, 1 << 62, math.MaxInt - 1, math.MaxInt}
	goodHws  = []int{0, 1, 2, 255, 65536, mostIp, mostIp + 1, 1 << 40, 1<<47 - 1, 1 << 47, mostHw - 1, mostHw}
	badHws   = []int{math.MinInt, math.MinInt + 1, math.MinInt + 5, -1 << 48, -1<<48 + 5, -mostHw, -1 << 32, -2, -1, mostHw + 1, mostHw + 2, 1<<48 + 5, 1<<49 - 1, 1 << 49, 1 << 56, 1 << 62, math.MaxInt - 1, math.MaxInt}
	goodAges = []int{0, 1, 2, 3, 4, 5, 6, 7, 8, 9}
	badAges  = []int{math.MinInt, math.MinInt + 1, math.MinInt + 5, -1 << 32, -1<<32 + 5, -11, -10, -9, -2, -1, 10, 11, 15, 16, 19, 20, 255, 256, 256 + 5, 1 << 32, 1<<32 + 5, 1 << 62, math.MaxInt - 1, math.MaxInt}
)

// cacheGuard is in no list that a function answers.
var cacheGuard = []impl.Entry{entry(-77, -77, -77), entry(5, -78, 3), entry(-79, 5, 7)}

func entry(ip, hw, age int) impl.Entry { return impl.Entry{Ip: ip, Hw: hw, Age: age} }

func cacheWith(list ...impl.Entry) []impl.Entry { return list }

// entriesOf returns n entries that are valid, apart from their number. The ages go
// down and begin at the greatest one again.
func entriesOf(n int) []impl.Entry {
	var list []impl.Entry
	for i := range n {
		list = append(list, entry(fromIp+i, 1<<40+7*i, mostAge-i%10))
	}
	return list
}

// agesOf returns entries of these ages.
func agesOf(ages ...int) []impl.Entry {
	list := entriesOf(len(ages))
	for i, age := range ages {
		list[i].Age = age
	}
	return list
}

func withEntry(list []impl.Entry, at int, e impl.Entry) []impl.Entry {
	list = slices.Clone(list)
	list[at] = e
	return list
}

func withIp(list []impl.Entry, at, ip int) []impl.Entry {
	return withEntry(list, at, entry(ip, list[at].Hw, list[at].Age))
}

func withHw(list []impl.Entry, at, hw int) []impl.Entry {
	return withEntry(list, at, entry(list[at].Ip, hw, list[at].Age))
}

func withAge(list []impl.Entry, at, age int) []impl.Entry {
	return withEntry(list, at, entry(list[at].Ip, list[at].Hw, age))
}

// cacheFaults are changes that make an entry one that no cache has.
func cacheFaults() []func(e impl.Entry) impl.Entry {
	var faults []func(e impl.Entry) impl.Entry
	for _, n := range badIps {
		faults = append(faults, func(e impl.Entry) impl.Entry { return entry(n, e.Hw, e.Age) })
	}
	for _, n := range badHws {
		faults = append(faults, func(e impl.Entry) impl.Entry { return entry(e.Ip, n, e.Age) })
	}
	for _, n := range badAges {
		faults = append(faults, func(e impl.Entry) impl.Entry { return entry(e.Ip, e.Hw, n) })
	}
	return faults
}

// refusedCaches are lists that are no caches, with the entries of good ones.
func refusedCaches() [][]impl.Entry {
	lists := [][]impl.Entry{entriesOf(5), entriesOf(6), entriesOf(8), entriesOf(100), agesOf(0, 0, 0, 0, 0), slices.Repeat(entriesOf(1), 4), slices.Repeat(entriesOf(3), 3)}
	for n := 1; n <= mostArps; n++ {
		for at := range n {
			for _, fault := range cacheFaults() {
				lists = append(lists, withEntry(entriesOf(n), at, fault(entriesOf(n)[at])))
			}
			for from := range at {
				lists = append(lists, withIp(entriesOf(n), at, entriesOf(n)[from].Ip), withEntry(entriesOf(n), at, entriesOf(n)[from]))
			}
		}
	}
	return lists
}

// goodCaches are lists of all sizes that a cache may have.
func goodCaches() [][]impl.Entry {
	lists := [][]impl.Entry{nil, {}, entriesOf(3)[:0]}
	for n := 1; n <= mostArps; n++ {
		lists = append(lists, entriesOf(n), withIp(entriesOf(n), n-1, 0), withIp(entriesOf(n), 0, mostIp), withHw(entriesOf(n), n/2, 0), withHw(entriesOf(n), 0, mostHw), withAge(entriesOf(n), n-1, mostAge))
		lists = append(lists, agesOf(make([]int, n)...), agesOf(slices.Repeat([]int{mostAge}, n)...))
	}
	for seed := range 40 {
		lists = append(lists, someCache(seed))
	}
	return lists
}

// someCache returns a valid cache, with Ips that other ones have, too.
func someCache(seed int) []impl.Entry {
	var list []impl.Entry
	for i := range seed % (mostArps + 1) {
		e := entry(someInt(seed+i)&7, someInt(seed+2*i)&mostHw, (someInt(seed+3*i)&mostIp)%10)
		if !slices.ContainsFunc(list, func(other impl.Entry) bool { return other.Ip == e.Ip }) {
			list = append(list, e)
		}
	}
	return list
}

func validCache(list []impl.Entry) bool {
	ips := map[int]bool{}
	for _, e := range list {
		if ips[e.Ip] || !isWord(e.Ip, 32) || !isWord(e.Hw, 48) || uint(e.Age) > mostAge {
			return false
		}
		ips[e.Ip] = true
	}
	return len(list) < mostArps+1
}

// hwIn enters the entries from the last one to the first, so that the first counts.
func hwIn(list []impl.Entry, ip int) (int, bool) {
	hws := map[int]int{}
	for _, e := range slices.Backward(list) {
		hws[e.Ip] = e.Hw
	}
	hw, ok := hws[ip]
	return hw, ok
}

// learnedIn sorts the entries by their ages to find the one that goes.
func learnedIn(list []impl.Entry, ip, hw int) []impl.Entry {
	want := slices.Clone(list)
	if !validCache(list) || !isWord(ip, 32) || !isWord(hw, 48) {
		return want
	}
	for i, e := range want {
		if e.Ip == ip {
			want[i] = entry(ip, hw, 0)
			return want
		}
	}
	if len(want) == mostArps {
		byAge := slices.Clone(want)
		slices.SortStableFunc(byAge, func(a, b impl.Entry) int { return b.Age - a.Age })
		want = slices.DeleteFunc(want, func(e impl.Entry) bool { return e.Ip == byAge[0].Ip })
	}
	return append(want, entry(ip, hw, 0))
}

// agedIn adds without the wraparound of an int.
func agedIn(list []impl.Entry) []impl.Entry {
	var want []impl.Entry
	for _, e := range list {
		age := new(big.Int).Add(big.NewInt(int64(e.Age)), big.NewInt(1))
		if age.Cmp(big.NewInt(mostAge)) <= 0 {
			want = append(want, entry(e.Ip, e.Hw, int(age.Int64())))
		}
	}
	return want
}

// cacheShown returns the beginning of list for a message.
func cacheShown(list []impl.Entry) string {
	return fmt.Sprintf("%d entries %v", len(list), list[:min(len(list), 6)])
}

func checkCacheOk(t *testing.T, list []impl.Entry, want bool) {
	t.Helper()
	given, kept := guardedBy(list, cacheGuard)
	for range 2 {
		if got := impl.CacheOk(given); got != want || want != validCache(list) {
			t.Errorf("CacheOk(%s) = %v, want %v", cacheShown(list), got, want)
		}
	}
	if !kept() {
		t.Errorf("CacheOk changed %s, or what is beside it", cacheShown(list))
	}
}

func checkHw(t *testing.T, list []impl.Entry, ip, hw int, ok bool) {
	t.Helper()
	if wantHw, wantOk := hwIn(list, ip); wantHw != hw || wantOk != ok {
		t.Errorf("the test wants %d, %v of %d in %s, and not %d, %v", wantHw, wantOk, ip, cacheShown(list), hw, ok)
	}
	given, kept := guardedBy(list, cacheGuard)
	for range 2 {
		if gotHw, gotOk := impl.HwOf(given, ip); gotHw != hw || gotOk != ok {
			t.Errorf("HwOf(%s, %d) = %d, %v, want %d, %v", cacheShown(list), ip, gotHw, gotOk, hw, ok)
		}
	}
	if !kept() {
		t.Errorf("HwOf changed %s, or what is beside it", cacheShown(list))
	}
}

func checkHwOf(t *testing.T, list []impl.Entry, ip int) {
	t.Helper()
	hw, ok := hwIn(list, ip)
	checkHw(t, list, ip, hw, ok)
}

func checkNoHw(t *testing.T, list []impl.Entry, ip int) {
	t.Helper()
	checkHw(t, list, ip, 0, false)
}

func checkStored(t *testing.T, list []impl.Entry, ip, hw int, want []impl.Entry) {
	t.Helper()
	given, kept := guardedBy(list, cacheGuard)
	for range 2 {
		if got := impl.Learned(given, ip, hw); !slices.Equal(got, want) || !slices.Equal(want, learnedIn(list, ip, hw)) {
			t.Errorf("Learned(%s, %d, %d) = %s, want %s", cacheShown(list), ip, hw, cacheShown(got), cacheShown(want))
		}
	}
	if !kept() {
		t.Errorf("Learned changed %s, or what is beside it", cacheShown(list))
	}
}

// checkLearns checks that Learned answers what it should, and that it does not
// refuse list and this mapping.
func checkLearns(t *testing.T, list []impl.Entry, ip, hw int) {
	t.Helper()
	want := learnedIn(list, ip, hw)
	checkStored(t, list, ip, hw, want)
	checkCacheOk(t, list, true)
	checkCacheOk(t, want, true)
	checkHw(t, want, ip, hw, true)
	if at := slices.Index(want, entry(ip, hw, 0)); at < 0 || len(want) < len(list) {
		t.Errorf("Learned(%s, %d, %d) = %s", cacheShown(list), ip, hw, cacheShown(want))
	}
}

// checkNotStored checks that Learned answers the list as it was.
func checkNotStored(t *testing.T, list []impl.Entry, ip, hw int) {
	t.Helper()
	checkStored(t, list, ip, hw, list)
}

func checkAged(t *testing.T, list, want []impl.Entry) {
	t.Helper()
	given, kept := guardedBy(list, cacheGuard)
	for range 2 {
		if got := impl.Aged(given); !slices.Equal(got, want) || !slices.Equal(want, agedIn(list)) {
			t.Errorf("Aged(%s) = %s, want %s", cacheShown(list), cacheShown(got), cacheShown(want))
		}
	}
	if !kept() {
		t.Errorf("Aged changed %s, or what is beside it", cacheShown(list))
	}
}

// checkCache checks all that is asked of list, for its own Ips and one other.
func checkCache(t *testing.T, list []impl.Entry, ip, hw int) {
	t.Helper()
	checkCacheOk(t, list, validCache(list))
	checkAged(t, list, agedIn(list))
	checkHwOf(t, list, ip)
	checkStored(t, list, ip, hw, learnedIn(list, ip, hw))
	for _, e := range list[:min(len(list), 6)] {
		checkHwOf(t, list, e.Ip)
		checkHwOf(t, list, e.Hw)
		checkStored(t, list, e.Ip, hw, learnedIn(list, e.Ip, hw))
		checkStored(t, list, e.Ip, e.Hw, learnedIn(list, e.Ip, e.Hw))
	}
}

func TestCacheLimits(t *testing.T) {
	if impl.MaxArp != 4 || impl.MaxAge != 9 {
		t.Errorf("MaxArp = %d, MaxAge = %d", impl.MaxArp, impl.MaxAge)
	}
	if (impl.Entry{Ip: 1, Hw: 2, Age: 3}) != entry(1, 2, 3) {
		t.Error("an entry has other fields")
	}
}

func TestCacheOkOfSizes(t *testing.T) {
	checkCacheOk(t, nil, true)
	checkCacheOk(t, []impl.Entry{}, true)
	checkCacheOk(t, entriesOf(9)[:0], true)
	checkCacheOk(t, []impl.Entry{{}}, true)
	checkCacheOk(t, []impl.Entry{{}, {}}, false)
	for n := range 300 {
		checkCacheOk(t, entriesOf(n), n <= mostArps)
		checkCacheOk(t, agesOf(make([]int, n)...), n <= mostArps)
	}
	for _, n := range []int{1000, 65535, 65536, 65540} {
		checkCacheOk(t, entriesOf(n), false)
	}
	if !impl.CacheOk(nil) || !impl.CacheOk(entriesOf(4)) || impl.CacheOk(entriesOf(5)) {
		t.Error("CacheOk of 0, 4 or 5 entries is wrong")
	}
}

func TestCacheOkOfFields(t *testing.T) {
	for n := 1; n <= mostArps; n++ {
		list := entriesOf(n)
		for at := range n {
			for _, ip := range goodIps {
				checkCacheOk(t, withIp(list, at, ip), true)
			}
			for _, ip := range badIps {
				checkCacheOk(t, withIp(list, at, ip), false)
			}
			for _, hw := range goodHws {
				checkCacheOk(t, withHw(list, at, hw), true)
			}
			for _, hw := range badHws {
				checkCacheOk(t, withHw(list, at, hw), false)
			}
			for _, age := range goodAges {
				checkCacheOk(t, withAge(list, at, age), true)
			}
			for _, age := range badAges {
				checkCacheOk(t, withAge(list, at, age), false)
			}
			for bit := range 64 {
				flip := int(uint64(1) << bit)
				checkCacheOk(t, withIp(list, at, 1<<20^flip), bit < 32)
				checkCacheOk(t, withHw(list, at, 1<<20^flip), bit < 48)
				checkCacheOk(t, withAge(list, at, flip), bit < 4)
				checkCacheOk(t, withAge(list, at, 1^flip), bit < 4)
			}
		}
	}
	for _, c := range []struct {
		e  impl.Entry
		ok bool
	}{
		{entry(0, 0, 0), true}, {entry(4294967295, 0, 0), true}, {entry(-1, 0, 0), false}, {entry(4294967296, 0, 0), false},
		{entry(0, 281474976710655, 0), true}, {entry(0, -1, 0), false}, {entry(0, 281474976710656, 0), false}, {entry(0, 4294967296, 0), true},
		{entry(0, 0, 9), true}, {entry(0, 0, -1), false}, {entry(0, 0, 10), false}, {entry(4294967295, 281474976710655, 9), true},
		{entry(281474976710655, 0, 0), false}, {entry(281474976710655, 4294967295, 9), false}, {entry(-1, 281474976710656, 10), false},
	} {
		checkCacheOk(t, cacheWith(c.e), c.ok)
		checkCacheOk(t, cacheWith(entry(77, 7, 7), c.e), c.ok)
		checkCacheOk(t, cacheWith(c.e, entry(77, 7, 7)), c.ok)
	}
}

// A wrong entry is not made up for by another, wrong or right.
func TestCacheOkOfTwoFaults(t *testing.T) {
	for n := 2; n <= mostArps; n++ {
		for at := range n {
			for from := range at {
				for _, fault := range cacheFaults() {
					for _, other := range cacheFaults() {
						list := withEntry(entriesOf(n), at, fault(entriesOf(n)[at]))
						checkCacheOk(t, withEntry(list, from, other(list[from])), false)
					}
				}
			}
		}
	}
	for _, fault := range cacheFaults() {
		for _, other := range cacheFaults() {
			checkCacheOk(t, cacheWith(fault(other(entry(1, 2, 3)))), false)
		}
	}
}

func TestCacheOkOfEqualIps(t *testing.T) {
	for n := 2; n <= mostArps; n++ {
		for at := range n {
			for from := range at {
				for _, ip := range goodIps {
					same := withIp(withIp(entriesOf(n), at, ip), from, ip)
					checkCacheOk(t, same, false)
					checkCacheOk(t, withEntry(same, at, same[from]), false)
					checkCacheOk(t, withIp(same, at, ip^1), true)
				}
				// The same Hw or the same Age is no fault.
				list := entriesOf(n)
				checkCacheOk(t, withHw(list, at, list[from].Hw), true)
				checkCacheOk(t, withAge(list, at, list[from].Age), true)
				checkCacheOk(t, withEntry(list, at, entry(list[at].Ip, list[from].Hw, list[from].Age)), true)
				checkCacheOk(t, withHw(list, at, list[from].Ip), true)
				checkCacheOk(t, withIp(withHw(list, from, 9), at, 9), true)
			}
		}
	}
	for n := 2; n < 9; n++ {
		for _, e := range []impl.Entry{{}, entry(1, 2, 3), entry(mostIp, mostHw, mostAge)} {
			checkCacheOk(t, slices.Repeat(cacheWith(e), n), false)
		}
	}
	// Two pairs, within each other and one behind the other.
	for _, ips := range [][]int{{1, 1, 2, 2}, {1, 2, 1, 2}, {1, 2, 2, 1}, {1, 1, 1, 2}, {2, 1, 1, 1}, {1, 1, 2, 1}, {1, 2, 1, 1}} {
		list := entriesOf(4)
		for i, ip := range ips {
			list[i].Ip = ip
		}
		checkCacheOk(t, list, false)
	}
	// Five entries of which two are one.
	for at := range 4 {
		checkCacheOk(t, withIp(entriesOf(5), 4, entriesOf(5)[at].Ip), false)
	}
}

func TestHwOf(t *testing.T) {
	list := cacheWith(entry(10, 1, 0), entry(20, 2, 9), entry(0, 3, 5), entry(mostIp, 0, 1))
	checkHw(t, list, 10, 1, true)
	checkHw(t, list, 20, 2, true)
	checkHw(t, list, 0, 3, true)
	checkHw(t, list, mostIp, 0, true)
	for _, ip := range slices.Concat(badIps, []int{1, 2, 3, 5, 9, 11, 19, 21, mostIp - 1}) {
		checkNoHw(t, list, ip)
	}
	for _, ip := range slices.Concat(goodIps, badIps, farInts) {
		checkNoHw(t, nil, ip)
		checkNoHw(t, []impl.Entry{}, ip)
		checkNoHw(t, entriesOf(4)[:0], ip)
		checkNoHw(t, cacheWith(entry(ip^1, 7, 0)), ip)
		checkHw(t, cacheWith(entry(ip, 7, 0)), ip, 7, true)
		checkHw(t, cacheWith(entry(ip, 0, 0)), ip, 0, true)
		checkHw(t, cacheWith(entry(ip^1, 6, 0), entry(ip, 7, 0)), ip, 7, true)
		checkHw(t, cacheWith(entry(ip, 7, 0), entry(ip^1, 6, 0)), ip, 7, true)
	}
	// What is behind the end of a list is not found.
	checkNoHw(t, entriesOf(4)[:3], entriesOf(4)[3].Ip)
	if hw, ok := impl.HwOf(entriesOf(4)[1:3], entriesOf(4)[0].Ip); hw != 0 || ok {
		t.Errorf("HwOf found %d, %v before its list", hw, ok)
	}
}

func TestHwOfTheFirst(t *testing.T) {
	for n := 2; n <= 7; n++ {
		for at := range n {
			for from := range at {
				for _, hws := range [][2]int{{5, 6}, {6, 5}, {0, 6}, {6, 0}, {-1, 5}, {5, -1}, {mostHw, 0}} {
					list := withHw(withHw(withIp(entriesOf(n), at, entriesOf(n)[from].Ip), from, hws[0]), at, hws[1])
					checkHw(t, list, list[from].Ip, hws[0], true)
					// Neither the younger nor the older one counts for its age.
					checkHw(t, withAge(list, from, 9), list[from].Ip, hws[0], true)
					checkHw(t, withAge(list, at, 0), list[from].Ip, hws[0], true)
					checkHw(t, withAge(withAge(list, from, 0), at, 9), list[from].Ip, hws[0], true)
				}
			}
		}
	}
	checkHw(t, cacheWith(entry(1, 5, 0), entry(1, 6, 0), entry(1, 7, 0)), 1, 5, true)
	checkHw(t, cacheWith(entry(2, 4, 0), entry(1, 0, 0), entry(1, 7, 0)), 1, 0, true)
}

// Lists that are no caches are searched like others.
func TestHwOfRefusedLists(t *testing.T) {
	for _, list := range refusedCaches() {
		checkCacheOk(t, list, false)
		for _, e := range list[:min(len(list), 12)] {
			checkHwOf(t, list, e.Ip)
			checkHwOf(t, list, e.Hw)
			checkHwOf(t, list, e.Age)
		}
		checkNoHw(t, list, fromIp-1)
	}
	checkHw(t, cacheWith(entry(-1, -2, -3)), -1, -2, true)
	checkHw(t, cacheWith(entry(math.MinInt, math.MaxInt, 10)), math.MinInt, math.MaxInt, true)
	checkHw(t, cacheWith(entry(1<<32+5, 1<<48, 99)), 1<<32+5, 1<<48, true)
	checkNoHw(t, cacheWith(entry(1<<32+5, 1<<48, 99)), 5)
	checkHw(t, entriesOf(100), fromIp+99, 1<<40+7*99, true)
	checkNoHw(t, entriesOf(100), fromIp+100)
}

func TestLearned(t *testing.T) {
	a, b, c, d := entry(10, 1, 3), entry(20, 2, 5), entry(30, 3, 5), entry(40, 4, 1)
	for _, x := range []struct {
		list   []impl.Entry
		ip, hw int
		want   []impl.Entry
	}{
		{nil, 10, 1, cacheWith(entry(10, 1, 0))},
		{nil, 0, 0, cacheWith(entry(0, 0, 0))},
		{nil, mostIp, mostHw, cacheWith(entry(mostIp, mostHw, 0))},
		{cacheWith(a), 10, 1, cacheWith(entry(10, 1, 0))},
		{cacheWith(a), 10, 9, cacheWith(entry(10, 9, 0))},
		{cacheWith(a), 20, 1, cacheWith(a, entry(20, 1, 0))},
		{cacheWith(a), 1, 10, cacheWith(a, entry(1, 10, 0))},
		{cacheWith(a, b, c), 10, 9, cacheWith(entry(10, 9, 0), b, c)},
		{cacheWith(a, b, c), 20, 2, cacheWith(a, entry(20, 2, 0), c)},
		{cacheWith(a, b, c), 30, 9, cacheWith(a, b, entry(30, 9, 0))},
		{cacheWith(a, b, c), 40, 4, cacheWith(a, b, c, entry(40, 4, 0))},
		{cacheWith(a, b, c, d), 10, 9, cacheWith(entry(10, 9, 0), b, c, d)},
		{cacheWith(a, b, c, d), 20, 9, cacheWith(a, entry(20, 9, 0), c, d)},
		{cacheWith(a, b, c, d), 30, 9, cacheWith(a, b, entry(30, 9, 0), d)},
		{cacheWith(a, b, c, d), 40, 9, cacheWith(a, b, c, entry(40, 9, 0))},
		{cacheWith(a, b, c, d), 50, 9, cacheWith(a, c, d, entry(50, 9, 0))},
		{cacheWith(a, c, b, d), 50, 9, cacheWith(a, b, d, entry(50, 9, 0))},
		{cacheWith(a, d, c, b), 50, 9, cacheWith(a, d, b, entry(50, 9, 0))},
		{cacheWith(b, a, d, c), 50, 9, cacheWith(a, d, c, entry(50, 9, 0))},
		{cacheWith(a, d, entry(7, 7, 2), b), 50, 9, cacheWith(a, d, entry(7, 7, 2), entry(50, 9, 0))},
		{agesOf(0, 0, 0, 0), 50, 9, append(agesOf(0, 0, 0, 0)[1:], entry(50, 9, 0))},
		{agesOf(9, 9, 9, 9), 50, 9, append(agesOf(9, 9, 9, 9)[1:], entry(50, 9, 0))},
		{agesOf(0, 0, 0, 1), 50, 9, append(agesOf(0, 0, 0), entry(50, 9, 0))},
	} {
		checkStored(t, x.list, x.ip, x.hw, x.want)
		checkLearns(t, x.list, x.ip, x.hw)
	}
}

// A known Ip keeps its place, at whatever age, with the same Hw and with another.
func TestLearnedOfKnownIps(t *testing.T) {
	for n := 1; n <= mostArps; n++ {
		for at := range n {
			for _, ip := range goodIps {
				for _, age := range goodAges {
					list := withEntry(entriesOf(n), at, entry(ip, 55, age))
					checkStored(t, list, ip, 55, withAge(list, at, 0))
					for _, hw := range goodHws {
						checkStored(t, list, ip, hw, withEntry(list, at, entry(ip, hw, 0)))
						checkLearns(t, list, ip, hw)
					}
				}
			}
			// The Hw of another entry, and its number as an Ip.
			for other := range n {
				list := entriesOf(n)
				checkStored(t, list, list[at].Ip, list[other].Hw, withEntry(list, at, entry(list[at].Ip, list[other].Hw, 0)))
				checkStored(t, list, list[at].Ip, list[other].Ip, withEntry(list, at, entry(list[at].Ip, list[other].Ip, 0)))
			}
		}
	}
}

func TestLearnedOfNewIps(t *testing.T) {
	for n := range mostArps {
		for _, ip := range goodIps {
			for _, hw := range goodHws {
				checkStored(t, entriesOf(n), ip, hw, append(entriesOf(n), entry(ip, hw, 0)))
				checkLearns(t, entriesOf(n), ip, hw)
			}
		}
		// Nothing goes while there is room, however old it is.
		old := agesOf(slices.Repeat([]int{mostAge}, n)...)
		checkStored(t, old, 5, 6, append(slices.Clone(old), entry(5, 6, 0)))
		checkStored(t, slices.Clip(old), 5, 6, append(slices.Clone(old), entry(5, 6, 0)))
	}
	checkStored(t, []impl.Entry{}, 5, 6, cacheWith(entry(5, 6, 0)))
	checkStored(t, entriesOf(4)[:0], fromIp, 6, cacheWith(entry(fromIp, 6, 0)))
	// What is behind the end of a list is not known.
	checkStored(t, entriesOf(4)[:2], fromIp+2, 6, append(entriesOf(2), entry(fromIp+2, 6, 0)))
}

// All ages that four entries can have.
func TestLearnedOfFullCaches(t *testing.T) {
	places := [mostArps]int{}
	for n := range 10000 {
		ages := []int{n / 1000, n / 100 % 10, n / 10 % 10, n % 10}
		gone := slices.Index(ages, slices.Max(ages))
		list := agesOf(ages...)
		want := append(slices.Concat(list[:gone], list[gone+1:]), entry(5, 6, 0))
		checkStored(t, list, 5, 6, want)
		places[gone]++
		if n%7 > 0 {
			continue
		}
		// One that is known is none too many.
		at := n % mostArps
		checkStored(t, list, list[at].Ip, 6, withEntry(list, at, entry(list[at].Ip, 6, 0)))
	}
	if slices.Min(places[:]) < 1000 {
		t.Errorf("the first, second, third and fourth entry went %v times", places)
	}
	for at := range mostArps {
		for _, greatest := range goodAges[1:] {
			list := withAge(agesOf(greatest-1, greatest-1, greatest-1, greatest-1), at, greatest)
			want := append(slices.Delete(slices.Clone(list), at, at+1), entry(mostIp, 0, 0))
			checkStored(t, list, mostIp, 0, want)
			checkNoHw(t, want, list[at].Ip)
			checkLearns(t, list, mostIp, 0)
		}
	}
}

func TestLearnedOfRefusedLists(t *testing.T) {
	for _, list := range refusedCaches() {
		checkNotStored(t, list, 5, 6)
		for _, e := range list[:min(len(list), 6)] {
			checkNotStored(t, list, e.Ip, 6)
			checkNotStored(t, list, e.Ip, e.Hw)
		}
		checkNotStored(t, list, -1, 6)
		checkNotStored(t, list, 5, mostHw+1)
	}
	// The mapping would make up for the fault.
	checkNotStored(t, cacheWith(entry(1, 2, 10)), 1, 2)
	checkNotStored(t, cacheWith(entry(1, 2, -1)), 1, 2)
	checkNotStored(t, cacheWith(entry(1, -1, 0)), 1, 2)
	checkNotStored(t, append(entriesOf(3), entry(5, 6, 10)), 7, 8)
	checkNotStored(t, append(entriesOf(4), entry(5, 6, 9)), 5, 6)
	checkNotStored(t, append(entriesOf(4), entry(5, 6, 9)), 7, 8)
}

func TestLearnedOfRefusedMappings(t *testing.T) {
	for _, list := range goodCaches() {
		for _, ip := range badIps {
			for _, hw := range []int{0, 5, mostHw, -1, mostHw + 1} {
				checkNotStored(t, list, ip, hw)
			}
		}
		for _, hw := range badHws {
			checkNotStored(t, list, 5, hw)
			checkNotStored(t, list, 0, hw)
			checkNotStored(t, list, mostIp, hw)
			for _, e := range list {
				checkNotStored(t, list, e.Ip, hw)
			}
		}
		for bit := range 64 {
			flip := int(uint64(1) << bit)
			checkStored(t, list, 3^flip, 6, learnedIn(list, 3^flip, 6))
			checkStored(t, list, 3, 6^flip, learnedIn(list, 3, 6^flip))
		}
	}
	for _, c := range []struct{ ip, hw int }{{-1, 0}, {4294967296, 0}, {0, -1}, {0, 281474976710656}, {-1, -1}, {4294967296, 281474976710656}, {281474976710655, 4294967295}} {
		checkNotStored(t, nil, c.ip, c.hw)
		checkNotStored(t, entriesOf(4), c.ip, c.hw)
	}
}

func TestAged(t *testing.T) {
	checkAged(t, nil, nil)
	checkAged(t, []impl.Entry{}, nil)
	checkAged(t, entriesOf(4)[:0], nil)
	for _, c := range []struct {
		ages, want []int
	}{
		{[]int{0}, []int{1}}, {[]int{1}, []int{2}}, {[]int{7}, []int{8}}, {[]int{8}, []int{9}}, {[]int{9}, nil}, {[]int{10}, nil}, {[]int{11}, nil},
		{[]int{-1}, []int{0}}, {[]int{-2}, []int{-1}}, {[]int{-10}, []int{-9}}, {[]int{math.MinInt}, []int{math.MinInt + 1}}, {[]int{math.MinInt + 1}, []int{math.MinInt + 2}},
		{[]int{math.MaxInt}, nil}, {[]int{math.MaxInt - 1}, nil}, {[]int{1 << 32}, nil}, {[]int{1<<32 + 5}, nil}, {[]int{-1<<32 + 5}, []int{-1<<32 + 6}},
		{[]int{0, 0, 0, 0}, []int{1, 1, 1, 1}}, {[]int{9, 9, 9, 9}, nil}, {[]int{8, 8, 8, 8}, []int{9, 9, 9, 9}}, {[]int{0, 8}, []int{1, 9}}, {[]int{3, 1, 2, 0}, []int{4, 2, 3, 1}},
	} {
		want := agesOf(c.want...)
		checkAged(t, agesOf(c.ages...), want)
	}
	a, b, c := entry(10, 1, 8), entry(20, 2, 9), entry(30, 3, 0)
	olderA, olderC := entry(10, 1, 9), entry(30, 3, 1)
	checkAged(t, cacheWith(a, b, c), cacheWith(olderA, olderC))
	checkAged(t, cacheWith(b, a, c), cacheWith(olderA, olderC))
	checkAged(t, cacheWith(a, c, b), cacheWith(olderA, olderC))
	checkAged(t, cacheWith(c, a, b), cacheWith(olderC, olderA))
	checkAged(t, cacheWith(b, b, c, b), cacheWith(olderC))
	checkAged(t, cacheWith(a, b, b, a), cacheWith(olderA, olderA))
}

// Each age at each place, alone and between others.
func TestAgedOfEachPlace(t *testing.T) {
	ages := slices.Concat(goodAges, badAges, farInts)
	for n := 1; n <= 6; n++ {
		for at := range n {
			for _, age := range ages {
				for _, others := range []int{0, 8, 9, 10, -1, math.MaxInt, math.MinInt} {
					list := agesOf(slices.Repeat([]int{others}, n)...)
					checkAged(t, withAge(list, at, age), agedIn(withAge(list, at, age)))
				}
				list := withAge(entriesOf(n), at, age)
				checkAged(t, list, agedIn(list))
			}
		}
	}
	for _, a := range ages {
		for _, b := range ages {
			checkAged(t, agesOf(a, b), agedIn(agesOf(a, b)))
		}
	}
	// Every subset of the places goes.
	for mask := range 64 {
		list := agesOf(3, 4, 5, 6, 7, 8)
		var want []impl.Entry
		for at := range 6 {
			if mask>>at&1 > 0 {
				list[at].Age = mostAge
			} else {
				want = append(want, entry(list[at].Ip, list[at].Hw, list[at].Age+1))
			}
		}
		checkAged(t, list, want)
	}
}

// Lists that are no caches age like others.
func TestAgedOfRefusedLists(t *testing.T) {
	for _, list := range refusedCaches() {
		checkAged(t, list, agedIn(list))
		for range 3 {
			list = agedIn(list)
		}
		checkAged(t, list, agedIn(list))
	}
	checkAged(t, agesOf(0, 1, 2, 3, 4, 5, 6), agesOf(1, 2, 3, 4, 5, 6, 7))
	checkAged(t, cacheWith(entry(-1, -2, 3), entry(-1, mostHw+1, 4)), cacheWith(entry(-1, -2, 4), entry(-1, mostHw+1, 5)))
	if got := impl.Aged(entriesOf(1000)); len(got) != 900 {
		t.Errorf("Aged of 1000 entries, 100 of them of the greatest age, has %d", len(got))
	}
}

// Which entry is the oldest is not a matter of the order in which they came.
func TestCacheOldestIsNotTheFirst(t *testing.T) {
	var list []impl.Entry
	for i := range mostArps {
		list = impl.Aged(impl.Learned(list, 10+i, 20+i))
	}
	list = impl.Learned(list, 10, 20)
	want := cacheWith(entry(10, 20, 0), entry(11, 21, 3), entry(12, 22, 2), entry(13, 23, 1))
	if !slices.Equal(list, want) {
		t.Fatalf("the list is %v, want %v", list, want)
	}
	checkStored(t, list, 14, 24, cacheWith(want[0], want[2], want[3], entry(14, 24, 0)))
	// Four that came within one tick: the first of them goes.
	list = nil
	for i := range mostArps {
		list = impl.Learned(list, 10+i, 20+i)
	}
	checkStored(t, list, 14, 24, append(slices.Clone(list[1:]), entry(14, 24, 0)))
	list = impl.Learned(list, 10, 99)
	checkStored(t, list, 14, 24, append(slices.Clone(list[1:]), entry(14, 24, 0)))
	list = impl.Aged(list)
	checkStored(t, impl.Learned(list, 10, 20), 14, 24, cacheWith(entry(10, 20, 0), list[2], list[3], entry(14, 24, 0)))
}

func TestCacheOfConfusedNumbers(t *testing.T) {
	list := cacheWith(entry(5, 7, 3), entry(7, 5, 4), entry(3, 4, 5))
	checkHw(t, list, 5, 7, true)
	checkHw(t, list, 7, 5, true)
	checkHw(t, list, 3, 4, true)
	checkNoHw(t, list, 4)
	checkStored(t, list, 4, 3, append(slices.Clone(list), entry(4, 3, 0)))
	checkStored(t, list, 7, 7, cacheWith(list[0], entry(7, 7, 0), list[2]))
	checkStored(t, list, 3, 5, cacheWith(list[0], list[1], entry(3, 5, 0)))
	// What is a Hw is not always an Ip.
	checkStored(t, list, 5, mostIp+1, withEntry(list, 0, entry(5, mostIp+1, 0)))
	checkNotStored(t, list, mostIp+1, 5)
	checkNotStored(t, list, mostHw, mostHw)
	// An age that a cache has, and the next one.
	for n := 1; n <= mostArps; n++ {
		for at := range n {
			within, above := withAge(entriesOf(n), at, 9), withAge(entriesOf(n), at, 10)
			checkLearns(t, within, 5, 6)
			checkLearns(t, within, within[at].Ip, 6)
			checkNotStored(t, above, 5, 6)
			checkNotStored(t, above, above[at].Ip, 6)
			checkHw(t, above, above[at].Ip, above[at].Hw, true)
			if !slices.Equal(impl.Aged(within), impl.Aged(above)) {
				t.Errorf("an entry of age 9 or 10 in %v is not gone", within)
			}
			checkAged(t, withAge(entriesOf(n), at, 8), agedIn(withAge(entriesOf(n), at, 8)))
			checkCacheOk(t, impl.Aged(within), true)
		}
	}
}

// A mapping is there for nine ticks and gone after ten, whatever else is learned
// while there is room.
func TestMappingsExpire(t *testing.T) {
	for others := range mostArps {
		for _, ip := range goodIps {
			for at := range others + 1 {
				var list []impl.Entry
				for i := range others + 1 {
					if i == at {
						list = impl.Learned(list, ip, 55)
					} else {
						list = impl.Learned(list, 1000+i, 66)
					}
				}
				for tick := range 15 {
					if hw, ok := impl.HwOf(list, ip); ok != (tick <= mostAge) || ok && hw != 55 {
						t.Errorf("after %d ticks, HwOf(%v, %d) = %d, %v", tick, list, ip, hw, ok)
					}
					if tick <= mostAge && list[at] != entry(ip, 55, tick) {
						t.Errorf("after %d ticks, the list is %v", tick, list)
					}
					list = impl.Aged(list)
					for i := range others + 1 {
						if i != at {
							list = impl.Learned(list, 1000+i, 67+tick)
						}
					}
				}
				if len(list) != others || !impl.CacheOk(list) {
					t.Errorf("the list is %v", list)
				}
			}
		}
	}
	// What is learned again, at any age, has all its time again.
	for again := range 10 {
		list := impl.Learned(nil, 5, 6)
		for range again {
			list = impl.Aged(list)
		}
		list = impl.Learned(list, 5, 7)
		for tick := range mostAge + 1 {
			if !slices.Equal(list, cacheWith(entry(5, 7, tick))) {
				t.Errorf("learned again after %d ticks, after %d more there is %v", again, tick, list)
			}
			list = impl.Aged(list)
		}
		if len(list) != 0 {
			t.Errorf("learned again after %d ticks, there still is %v", again, list)
		}
	}
}

// journal says when each Ip was learned the last time, in the order of the list.
type journal struct {
	now int
	ips []int
	hws map[int]int
	met map[int]int
}

func (j *journal) learn(ip, hw int) (replaced int) {
	replaced = -1
	if !slices.Contains(j.ips, ip) {
		if len(j.ips) == mostArps {
			for i, other := range j.ips {
				if replaced < 0 || j.met[other] < j.met[j.ips[replaced]] {
					replaced = i
				}
			}
			j.ips = slices.Delete(j.ips, replaced, replaced+1)
		}
		j.ips = append(j.ips, ip)
	}
	j.hws[ip], j.met[ip] = hw, j.now
	return replaced
}

func (j *journal) tick() {
	j.now++
	j.ips = slices.DeleteFunc(j.ips, func(ip int) bool { return j.now-j.met[ip] > mostAge })
}

func (j *journal) list() []impl.Entry {
	var list []impl.Entry
	for _, ip := range j.ips {
		list = append(list, entry(ip, j.hws[ip], j.now-j.met[ip]))
	}
	return list
}

// Long runs from the empty cache, with more and with fewer Ips than there is room
// for, and with more and with fewer ticks.
func TestCacheOverLongRuns(t *testing.T) {
	replaced, expired := [mostArps]int{}, 0
	for _, ips := range []int{1, 2, 3, 4, 5, 6, 9, 40} {
		for _, ticks := range []int{0, 1, 5, 20, 50, 80, 95} {
			kept := &journal{hws: map[int]int{}, met: map[int]int{}}
			var list []impl.Entry
			for n := range 1500 {
				draw := someInt(n*97+ips*13+ticks) & mostIp
				before := len(list)
				if draw%100 < ticks {
					kept.tick()
					list = impl.Aged(list)
					expired += before - len(list)
				} else {
					ip, hw := draw/100%ips*(mostIp/40), someInt(n)&mostHw
					if at := kept.learn(ip, hw); at >= 0 {
						replaced[at]++
					}
					list = impl.Learned(list, ip, hw)
					if got, ok := impl.HwOf(list, ip); got != hw || !ok {
						t.Fatalf("after %d steps, HwOf(%v, %d) = %d, %v, want %d", n, list, ip, got, ok, hw)
					}
				}
				if !slices.Equal(list, kept.list()) {
					t.Fatalf("after %d steps, the list is %v, want %v", n, list, kept.list())
				}
				found := map[int]bool{}
				for _, e := range list {
					found[e.Ip] = true
				}
				if !impl.CacheOk(list) || len(list) > mostArps || len(found) != len(list) {
					t.Fatalf("after %d steps, the list is %v", n, list)
				}
				// A mapping that is refused changes nothing.
				if n%10 == 0 {
					checkNotStored(t, list, draw, -1)
					checkNotStored(t, list, -1-draw, 5)
				}
			}
		}
	}
	if slices.Min(replaced[:]) < 20 || expired < 1000 {
		t.Errorf("the entries at each place were replaced %v times, and %d expired", replaced, expired)
	}
}

// Every function returns, and returns the same again, whatever it is given.
func TestCacheIsTotal(t *testing.T) {
	defer func() {
		if r := recover(); r != nil {
			t.Fatalf("panic: %v", r)
		}
	}()
	for at, n := range farInts {
		for other, m := range farInts {
			checkCache(t, cacheWith(entry(n, m, n)), m, n)
			checkCache(t, cacheWith(entry(n, 5, m), entry(m, 6, n)), n, m)
			checkCache(t, cacheWith(entry(1, n, m), entry(n, 2, m), entry(m, n, 3), entry(7, m, n)), m, 8)
			checkCache(t, agesOf(slices.Repeat([]int{n, m}, (at+other)%5)...), 9, m)
		}
		checkCache(t, nil, n, n)
	}
	for _, list := range slices.Concat(goodCaches(), refusedCaches()) {
		for _, n := range []int{0, 1, 3, mostIp, mostIp + 1, -1, mostHw, mostHw + 1, math.MinInt, math.MaxInt} {
			checkCache(t, list, n, 6)
			checkCache(t, list, 5, n)
		}
	}
	for seed := range 20000 {
		var list []impl.Entry
		for i := range seed % 7 {
			list = append(list, entry(someInt(seed+i), someInt(seed+2*i+1), someInt(seed+3*i+2)))
		}
		checkCache(t, list, someInt(seed+4), someInt(seed+5))
		checkCache(t, someCache(seed), someInt(seed)&7, someInt(seed+1))
	}
}

// cacheCalls are the calls that answer a list, some of them the list unchanged.
var cacheCalls = []struct {
	name string
	call func([]impl.Entry) []impl.Entry
}{
	{"Aged", impl.Aged},
	{"Learned of a known Ip", func(list []impl.Entry) []impl.Entry {
		if len(list) == 0 {
			return impl.Learned(list, 1, 2)
		}
		return impl.Learned(list, list[len(list)/2].Ip, 6)
	}},
	{"Learned of a new Ip", func(list []impl.Entry) []impl.Entry { return impl.Learned(list, 12345, 6) }},
	{"Learned of no Ip", func(list []impl.Entry) []impl.Entry { return impl.Learned(list, -1, 6) }},
	{"Learned of no Hw", func(list []impl.Entry) []impl.Entry { return impl.Learned(list, 12345, mostHw+1) }},
}

func TestCacheAnswersAreNew(t *testing.T) {
	for _, list := range slices.Concat(goodCaches(), refusedCaches()) {
		for _, c := range cacheCalls {
			checkOwnMemory(t, c.name, list, cacheGuard, c.call)
			checkOwnMemory(t, c.name, list[len(list)/2:], cacheGuard, c.call)
		}
	}
	// A change of one answer is not seen in the next.
	for n := range 100 {
		list := impl.Learned(impl.Learned(nil, 1, 2), 3, 4)
		if !slices.Equal(list, cacheWith(entry(1, 2, 0), entry(3, 4, 0))) {
			t.Fatalf("after %d changes, the list is %v", n, list)
		}
		overwrite(list, entry(n, n, n))
	}
}

// The same call answers the same, however often it is repeated, and whatever was
// called in between.
func TestCacheRepeats(t *testing.T) {
	list := agesOf(3, 9, 8, 9)
	for n := range 5000 {
		if !impl.CacheOk(list) || impl.CacheOk(agesOf(3, 9, 8, 10)) {
			t.Fatalf("CacheOk is wrong after %d times", n)
		}
		if hw, ok := impl.HwOf(list, list[2].Ip); hw != list[2].Hw || !ok {
			t.Fatalf("HwOf(%v, ..) = %d, %v after %d times", list, hw, ok, n)
		}
		if got := impl.Learned(list, 5, 6); !slices.Equal(got, cacheWith(list[0], list[2], list[3], entry(5, 6, 0))) {
			t.Fatalf("Learned(%v, 5, 6) = %v after %d times", list, got, n)
		}
		if got := impl.Aged(list); !slices.Equal(got, cacheWith(entry(list[0].Ip, list[0].Hw, 4), entry(list[2].Ip, list[2].Hw, 9))) {
			t.Fatalf("Aged(%v) = %v after %d times", list, got, n)
		}
		impl.HwOf(list, n)
		impl.Aged(impl.Learned(someCache(n), n%9, n))
	}
}

// No call depends on other calls, before it or at the same time.
func TestCacheKeepsNothing(t *testing.T) {
	shared := agesOf(3, 9, 8, 9)
	checkAtOnce(t, func(worker int, faults map[string]int) {
		for n := range 2000 {
			seed := n + 31*worker
			for _, list := range [][]impl.Entry{shared, someCache(seed), entriesOf(seed % 6)} {
				ip, hw := someInt(seed)&7, someInt(seed+1)
				if impl.CacheOk(list) != validCache(list) {
					faults["CacheOk"]++
				}
				got, ok := impl.HwOf(list, ip)
				if want, wantOk := hwIn(list, ip); got != want || ok != wantOk {
					faults["HwOf"]++
				}
				if !slices.Equal(impl.Learned(list, ip, hw), learnedIn(list, ip, hw)) {
					faults["Learned"]++
				}
				if !slices.Equal(impl.Aged(list), agedIn(list)) {
					faults["Aged"]++
				}
			}
		}
	})
}
