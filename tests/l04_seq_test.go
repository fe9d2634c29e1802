package tests

import (
	"math"
	"math/big"
	"testing"

	"loop.example/g00504/impl"
)

const (
	half = 2147483648
	last = 4294967295
	all  = 4294967296
)

// seqPlaces are the numbers around 0, half and all of the number space, and the
// ints beside which a sum or a difference overflows.
var seqPlaces = []int{
	0, 1, 2, half - 2, half - 1, half, half + 1, last - 1, last, all, all + 1, 3*all + half,
	-1, -2, -half + 1, -half, -half - 1, -last, -all, -all - 1, -5*all - half, 1 << 62, -1 << 62,
	math.MaxInt - 1, math.MaxInt, math.MinInt, math.MinInt + 1,
}

var seqSizes = []int{
	math.MinInt, -all, -1, 0, 1, 2, 3, 100, 65535, 65536, 65537, half - 1, half, half + 1, last - 1, last, all, all + 1, math.MaxInt,
}

var seqRuns = []int{math.MinInt, -all, -1, 0, 1, 2, 3, 65534, 65535, 65536, 65537, half, last, all, math.MaxInt}

// moves are the numbers by which places are moved.
var moves = []int{1, -1, 5, 65536, half - 1, half, half + 1, last, all, -all, 1 << 62, math.MaxInt, math.MinInt}

// exactMod returns plus - minus modulo 2^32, without the wraparound of an int.
func exactMod(plus int, more int, minus int) int {
	n := new(big.Int).Add(big.NewInt(int64(plus)), big.NewInt(int64(more)))
	n.Sub(n, big.NewInt(int64(minus)))
	return int(n.Mod(n, big.NewInt(all)).Int64())
}

// exactDiff returns a - b modulo 2^32, as a number from -2^31 to 2^31 - 1.
func exactDiff(a, b int) int {
	n := exactMod(a, 0, b)
	if n >= half {
		n -= all
	}
	return n
}

// someInt returns ints of all sizes in an irregular, repeatable order.
func someInt(seed int) int {
	x := uint64(seed)*0x9e3779b97f4a7c15 + 0xd1b54a32d192ed03
	x = (x ^ x>>31) * 0xbf58476d1ce4e5b9
	x ^= x >> 29
	return int(x) >> (uint(seed) * 7 % 64)
}

func TestSeqAdd(t *testing.T) {
	for _, c := range []struct{ a, n, want int }{
		{0, 0, 0}, {0, 1, 1}, {1, -1, 0}, {0, -1, last}, {1, -3, last - 1}, {last, 0, last}, {last, 1, 0}, {last, 2, 1}, {last, last, last - 1},
		{half, half, 0}, {half - 1, 1, half}, {half, -1, half - 1}, {half - 1, half, last}, {half + 1, half, 1}, {half, -half, 0}, {0, -half, half},
		{last - 1, 1, last}, {last - 1, 2, 0}, {last - 1, 3, 1}, {5, all, 5}, {5, -all, 5}, {5, 7 * all, 5}, {5, -7*all - 6, last},
		{all, 0, 0}, {all, -1, last}, {all + 3, 4, 7}, {-1, 0, last}, {-1, 1, 0}, {-1, -1, last - 1}, {-all, 9, 9}, {-half, 0, half},
		{math.MaxInt, 0, last}, {math.MaxInt, 1, 0}, {math.MaxInt, math.MaxInt, last - 1}, {math.MaxInt, math.MinInt, last},
		{math.MinInt, 0, 0}, {math.MinInt, -1, last}, {math.MinInt, 1, 1}, {math.MinInt, math.MinInt, 0}, {1, math.MaxInt, 0}, {0, math.MaxInt, last},
		{1, math.MinInt, 1}, {last, math.MinInt, last}, {half, math.MaxInt, half - 1},
	} {
		if got := impl.SeqAdd(c.a, c.n); got != c.want {
			t.Errorf("SeqAdd(%d, %d) = %d, want %d", c.a, c.n, got, c.want)
		}
	}
}

func TestSeqDiff(t *testing.T) {
	for _, c := range []struct{ a, b, want int }{
		{0, 0, 0}, {5, 5, 0}, {last, last, 0}, {1, 0, 1}, {0, 1, -1}, {0, last, 1}, {last, 0, -1}, {1, last, 2}, {last, 1, -2}, {last - 1, last, -1},
		{half - 1, 0, half - 1}, {0, half - 1, -half + 1}, {half, 0, -half}, {0, half, -half}, {half + 1, 0, -half + 1}, {0, half + 1, half - 1},
		{half + 7, 7, -half}, {7, half + 7, -half}, {last, half - 1, -half}, {half - 1, last, -half}, {half - 2, last, half - 1}, {last, half, half - 1},
		{half, last, -half + 1}, {1, half + 1, -half}, {half, half - 1, 1}, {half - 1, half, -1}, {half - 1, half + 1, -2},
		{all, 0, 0}, {0, all, 0}, {all + 2, 1, 1}, {-1, 0, -1}, {0, -1, 1}, {-1, last, 0}, {last, -1, 0}, {-half, 0, -half}, {0, -half, -half}, {-half, half, 0},
		{math.MaxInt, 0, -1}, {0, math.MaxInt, 1}, {math.MaxInt, -1, 0}, {-1, math.MaxInt, 0}, {math.MinInt, 0, 0}, {0, math.MinInt, 0}, {math.MinInt, 1, -1}, {1, math.MinInt, 1},
		{math.MaxInt, math.MinInt, -1}, {math.MinInt, math.MaxInt, 1}, {math.MaxInt, half - 1, -half}, {half - 1, math.MaxInt, -half}, {math.MinInt, half, -half}, {half, math.MinInt, -half},
	} {
		if got := impl.SeqDiff(c.a, c.b); got != c.want {
			t.Errorf("SeqDiff(%d, %d) = %d, want %d", c.a, c.b, got, c.want)
		}
	}
}

func TestSeqOrder(t *testing.T) {
	for _, c := range []struct {
		a, b        int
		below, upTo bool
	}{
		{0, 0, false, true}, {5, 5, false, true}, {last, last, false, true}, {half, half, false, true}, {5, 6, true, true}, {6, 5, false, false},
		{last, 0, true, true}, {0, last, false, false}, {last - 1, 1, true, true}, {1, last - 1, false, false},
		{0, half - 1, true, true}, {half - 1, 0, false, false}, {0, half, true, true}, {half, 0, true, true}, {0, half + 1, false, false}, {half + 1, 0, true, true},
		{half - 1, last, true, true}, {last, half - 1, true, true}, {last, half - 2, true, true}, {half - 2, last, false, false}, {half, last, true, true}, {last, half, false, false},
		{all, 0, false, true}, {0, all, false, true}, {-1, last, false, true}, {-1, 0, true, true}, {0, -1, false, false}, {-half, 0, true, true}, {0, -half, true, true},
		{all, 1, true, true}, {1, all, false, false}, {math.MaxInt, 0, true, true}, {0, math.MaxInt, false, false}, {math.MaxInt, last, false, true}, {math.MaxInt, half, false, false},
		{math.MinInt, 0, false, true}, {math.MinInt, 1, true, true}, {1, math.MinInt, false, false}, {math.MinInt, half, true, true}, {half, math.MinInt, true, true},
		{math.MinInt, math.MaxInt, false, false}, {math.MaxInt, math.MinInt, true, true}, {math.MinInt, math.MinInt, false, true}, {math.MaxInt, math.MaxInt, false, true},
	} {
		if got := impl.SeqBelow(c.a, c.b); got != c.below {
			t.Errorf("SeqBelow(%d, %d) = %v", c.a, c.b, got)
		}
		if got := impl.SeqUpTo(c.a, c.b); got != c.upTo {
			t.Errorf("SeqUpTo(%d, %d) = %v", c.a, c.b, got)
		}
	}
}

// checkPair checks all functions of two places against exact arithmetic.
func checkPair(t *testing.T, a, b int) {
	t.Helper()
	if got, want := impl.SeqAdd(a, b), exactMod(a, b, 0); got != want {
		t.Errorf("SeqAdd(%d, %d) = %d, want %d", a, b, got, want)
	}
	diff := impl.SeqDiff(a, b)
	if diff != exactDiff(a, b) || diff < -half || diff > half-1 {
		t.Errorf("SeqDiff(%d, %d) = %d, want %d", a, b, diff, exactDiff(a, b))
	}
	if got := impl.SeqAdd(b, diff); got != exactMod(a, 0, 0) {
		t.Errorf("SeqAdd(%d, SeqDiff(%d, %d)) = %d", b, a, b, got)
	}
	if got := impl.SeqBelow(a, b); got != (exactDiff(a, b) < 0) {
		t.Errorf("SeqBelow(%d, %d) = %v", a, b, got)
	}
	if got := impl.SeqUpTo(a, b); got != (exactDiff(a, b) <= 0) {
		t.Errorf("SeqUpTo(%d, %d) = %v", a, b, got)
	}
	// Of two places, one is below the other; both are where they are half the
	// number space apart, and neither where they are the same.
	below := 0
	for _, is := range []bool{impl.SeqBelow(a, b), impl.SeqBelow(b, a)} {
		if is {
			below++
		}
	}
	want := map[int]int{0: 0, -half: 2}
	if n, special := want[diff]; special && below != n || !special && below != 1 {
		t.Errorf("of %d and %d, %d are below the other", a, b, below)
	}
}

func TestSeqPairs(t *testing.T) {
	for _, a := range seqPlaces {
		for _, b := range seqPlaces {
			checkPair(t, a, b)
		}
		for _, n := range []int{0, 1, half - 1, half, half + 1, last} {
			checkPair(t, a, exactMod(a, n, 0))
			checkPair(t, exactMod(a, n, 0), a)
		}
	}
	for i := range 20000 {
		checkPair(t, someInt(i), someInt(-i-1))
	}
}

func TestInWindow(t *testing.T) {
	for _, c := range []struct {
		x, from, size int
		want          bool
	}{
		{5, 5, -1, false}, {5, 5, 0, false}, {4, 5, 0, false}, {5, 5, math.MinInt, false}, {5, 5, -last, false}, {5, 5, -all, false}, {5, 5, 1 - all, false},
		{5, 5, 1, true}, {4, 5, 1, false}, {6, 5, 1, false}, {last, last, 1, true}, {0, last, 1, false}, {last - 1, last, 1, false}, {0, 0, 1, true}, {last, 0, 1, false},
		{7, 5, 3, true}, {8, 5, 3, false}, {4, 5, 3, false}, {5, 5, 3, true},
		{last - 2, last - 1, 4, false}, {last - 1, last - 1, 4, true}, {last, last - 1, 4, true}, {0, last - 1, 4, true}, {1, last - 1, 4, true}, {2, last - 1, 4, false},
		{1, last, 3, true}, {2, last, 3, false}, {last, last, 3, true}, {last - 1, last, 3, false}, {half, last, 3, false},
		{last, last - 9, 10, true}, {0, last - 9, 10, false}, {last - 10, last - 9, 10, false}, {0, last - 9, 11, true}, {1, last - 9, 11, false},
		{half, 0, half, false}, {half - 1, 0, half, true}, {half, 0, half + 1, true}, {last, half, half, true}, {0, half, half, false}, {0, half, half + 1, true},
		{4, 5, last, false}, {3, 5, last, true}, {5, 5, last, true}, {6, 5, last, true}, {last, 0, last, false}, {last - 1, 0, last, true}, {last - 1, last, last, false}, {0, 1, last, false},
		{4, 5, last - 1, false}, {3, 5, last - 1, false}, {2, 5, last - 1, true},
		{4, 5, all, true}, {5, 5, all, true}, {last, 0, all, true}, {half, 5, all, true}, {4, 5, all + 1, true}, {4, 5, math.MaxInt, true}, {last, 0, math.MaxInt, true},
		{all + 5, 5, 1, true}, {5, all + 5, 1, true}, {all, last, 2, true}, {all + 1, last, 2, false}, {-1, last, 1, true}, {last, -1, 1, true}, {0, -1, 2, true}, {1, -1, 2, false}, {-2, -1, 2, false},
		{math.MaxInt, math.MinInt, 1, false}, {math.MinInt, math.MaxInt, 2, true}, {math.MaxInt, math.MinInt, last, false}, {math.MaxInt, math.MinInt, all, true},
		{math.MinInt, 0, 1, true}, {0, math.MinInt, 1, true}, {last, math.MaxInt, 1, true}, {math.MinInt, math.MinInt, 0, false}, {math.MaxInt, math.MaxInt, -1, false},
	} {
		if got := impl.InWindow(c.x, c.from, c.size); got != c.want {
			t.Errorf("InWindow(%d, %d, %d) = %v", c.x, c.from, c.size, got)
		}
	}
}

func TestInWindowOfPlaces(t *testing.T) {
	check := func(x, from, size int) {
		t.Helper()
		want := size > last || size >= 1 && exactMod(x, 0, from) < size
		if got := impl.InWindow(x, from, size); got != want {
			t.Errorf("InWindow(%d, %d, %d) = %v", x, from, size, got)
		}
	}
	for _, from := range seqPlaces {
		for _, size := range seqSizes {
			for _, x := range seqPlaces {
				check(x, from, size)
			}
			for _, n := range []int{-1, 0, 1} {
				check(exactMod(from, n, 0), from, size)
				check(exactMod(from, size, 1-n), from, size)
			}
		}
	}
	for i := range 20000 {
		check(someInt(3*i), someInt(3*i+1), someInt(3*i+2))
	}
}

// A window of a few numbers contains these and no others beside it.
func TestInWindowCounts(t *testing.T) {
	for _, from := range seqPlaces {
		for size := -2; size <= 8; size++ {
			inside := 0
			for n := -10; n < 20; n++ {
				if impl.InWindow(exactMod(from, n, 0), from, size) {
					inside++
				}
			}
			if inside != max(size, 0) {
				t.Errorf("%d numbers are in the window of %d from %d", inside, size, from)
			}
		}
	}
}

func TestOverlaps(t *testing.T) {
	for _, c := range []struct {
		x, n, from, size int
		want             bool
	}{
		{5, -1, 5, 9, false}, {5, 0, 5, 9, false}, {5, 0, 5, all, false}, {5, -1, 5, math.MaxInt, false}, {5, math.MinInt, 5, math.MaxInt, false}, {5, 1 - all, 5, 9, false},
		{5, 9, 5, -1, false}, {5, 9, 5, 0, false}, {5, math.MaxInt, 5, 0, false}, {5, math.MaxInt, 5, -1, false}, {5, math.MaxInt, 5, math.MinInt, false}, {5, 9, 5, 1 - all, false},
		{5, 1, 5, 1, true}, {4, 1, 5, 1, false}, {6, 1, 5, 1, false}, {4, 2, 5, 1, true}, {3, 3, 5, 1, true}, {3, 2, 5, 1, false}, {6, 9, 5, 1, false},
		{5, 1, 1, 5, true}, {5, 1, 1, 4, false}, {5, 9, 1, 5, true}, {5, 9, 1, 4, false}, // only the first number is in the window, or none
		{1, 5, 5, 9, true}, {1, 4, 5, 9, false}, {1, 5, 5, 1, true}, // only the last one, or none
		{1, 9, 4, 2, true}, {1, 9, 9, 1, true}, {1, 9, 10, 1, false}, {1, 9, 0, 1, false}, {1, 9, 1, 1, true}, // the window lies between them
		{4, 2, 1, 9, true}, {1, 9, 1, 9, true},
		{last, 3, 1, 1, true}, {last, 2, 1, 1, false}, {last - 1, 4, 0, 2, true}, {0, 1, last, 2, true}, {1, 1, last, 2, false}, {last, 1, 0, 9, false}, {last - 5, 5, 0, 9, false}, {last - 5, 7, 0, 9, true},
		{0, 65535, 65534, 1, true}, {0, 65535, 65535, 1, false}, {0, 65536, 65535, 1, true}, {0, 65536, 65536, 1, false},
		{0, 65537, 65535, 1, true}, {0, 65537, 65536, 1, false}, {0, math.MaxInt, 65535, 1, true}, {0, math.MaxInt, 65536, 1, false}, {0, math.MaxInt, 65536, 5, false}, {0, last, last, 1, false},
		{last - 9, 65536, 65525, 1, true}, {last - 9, 65536, 65526, 1, false}, {last - 9, math.MaxInt, 65525, 1, true}, {last - 9, math.MaxInt, 65526, 1, false},
		{0, 65536, half, 1, false}, {0, all, half, 1, false}, {0, 65536, 30000, 2, true},
		{5, 1, 6, last, false}, {5, 2, 6, last, true}, {5, 1, 7, last, true}, {4, 1, 6, last, true}, {6, 1, 6, last, true}, {5, 1, 6, all, true}, {5, 1, 6, math.MaxInt, true},
		{0, 65536, 65536, last - 65535, false}, {0, 65537, 65536, last - 65535, false}, {0, math.MaxInt, 65536, last - 65535, false}, {0, 65536, 65536, last - 65534, true}, {0, 65536, 65535, last - 65535, true},
		{all + 5, 1, 5, 1, true}, {5, 1, all + 5, 1, true}, {-1, 2, 0, 1, true}, {-1, 1, 0, 1, false}, {0, 1, -1, 2, true}, {0, 1, -1, 1, false},
		{math.MaxInt, 1, math.MinInt, 1, false}, {math.MaxInt, 2, math.MinInt, 1, true}, {math.MinInt, 1, math.MaxInt, 1, false}, {math.MinInt, 1, math.MaxInt, 2, true},
		{math.MaxInt, math.MaxInt, math.MaxInt, math.MaxInt, true}, {math.MinInt, math.MinInt, math.MinInt, math.MinInt, false}, {math.MinInt, math.MaxInt, 65535, 1, true}, {math.MinInt, math.MaxInt, 65536, 1, false},
	} {
		if got := impl.Overlaps(c.x, c.n, c.from, c.size); got != c.want {
			t.Errorf("Overlaps(%d, %d, %d, %d) = %v", c.x, c.n, c.from, c.size, got)
		}
	}
}

// meets tries each of the first 65536 of the n numbers, by its offset from the
// beginning of the window.
func meets(offset, n, size int) bool {
	for i := 0; i < n && i < 65536; i++ {
		if int(uint32(offset+i)) < size {
			return true
		}
	}
	return false
}

func TestOverlapsEachNumber(t *testing.T) {
	places := []int{0, 1, half, last - 40000, last, -1, math.MaxInt, math.MinInt}
	offsets := []int{0, 1, 2, 3, 99, 100, 65534, 65535, 65536, 65537, half - 1, half, half + 1, last - 65536, last - 65535, last - 65534, last - 2, last - 1, last}
	for _, from := range places {
		for _, offset := range offsets {
			for _, n := range seqRuns {
				for _, size := range seqSizes {
					x := exactMod(from, offset, 0)
					if got := impl.Overlaps(x, n, from, size); got != meets(offset, n, size) {
						t.Errorf("Overlaps(%d, %d, %d, %d) = %v", x, n, from, size, got)
					}
				}
			}
		}
	}
}

// The answer is that of InWindow for some number of the run.
func TestOverlapsByInWindow(t *testing.T) {
	for _, x := range seqPlaces {
		for n := -1; n <= 6; n++ {
			for offset := -9; offset <= 9; offset++ {
				for _, size := range []int{-1, 0, 1, 2, 3, 4, 5, last - 7, last - 2, last - 1, last, all} {
					from := exactMod(x, offset, 0)
					want := false
					for i := range max(n, 0) {
						want = want || impl.InWindow(exactMod(x, i, 0), from, size)
					}
					if got := impl.Overlaps(x, n, from, size); got != want {
						t.Errorf("Overlaps(%d, %d, %d, %d) = %v", x, n, from, size, got)
					}
				}
			}
		}
	}
}

// Moving both places moves their sum, and leaves their difference and order.
func TestSeqPairsMoved(t *testing.T) {
	check := func(a, b, by int) {
		t.Helper()
		if got, want := impl.SeqAdd(a+by, b), exactMod(impl.SeqAdd(a, b), by, 0); got != want {
			t.Errorf("SeqAdd(%d, %d) moved by %d is %d", a, b, by, got)
		}
		if got := impl.SeqDiff(a+by, b+by); got != impl.SeqDiff(a, b) {
			t.Errorf("SeqDiff(%d, %d) moved by %d is %d", a, b, by, got)
		}
		if impl.SeqBelow(a+by, b+by) != impl.SeqBelow(a, b) || impl.SeqUpTo(a+by, b+by) != impl.SeqUpTo(a, b) {
			t.Errorf("the order of %d and %d changes if moved by %d", a, b, by)
		}
		if to := impl.SeqAdd(a, by); impl.SeqDiff(to, impl.SeqAdd(b, by)) != impl.SeqDiff(a, b) || to != exactMod(a, by, 0) {
			t.Errorf("the places %d and %d change their difference if SeqAdd moves them by %d", a, b, by)
		}
	}
	for _, by := range moves {
		for _, a := range seqPlaces {
			for _, b := range seqPlaces {
				check(a, b, by)
			}
		}
	}
	for i := range 20000 {
		check(someInt(3*i), someInt(3*i+1), someInt(3*i+2))
	}
}

func TestWindowsMoved(t *testing.T) {
	check := func(x, n, from, size, by int) {
		t.Helper()
		if impl.InWindow(x+by, from+by, size) != impl.InWindow(x, from, size) {
			t.Errorf("InWindow(%d, %d, %d) changes if moved by %d", x, from, size, by)
		}
		if impl.Overlaps(x+by, n, from+by, size) != impl.Overlaps(x, n, from, size) {
			t.Errorf("Overlaps(%d, %d, %d, %d) changes if moved by %d", x, n, from, size, by)
		}
	}
	for _, by := range moves {
		for _, from := range seqPlaces {
			for _, n := range seqRuns {
				for _, size := range seqSizes {
					for _, offset := range []int{0, 1, half, last - 65535, last, size, -n} {
						check(from+offset, n, from, size, by)
					}
				}
			}
		}
	}
	for i := range 20000 {
		check(someInt(5*i), someInt(5*i+1), someInt(5*i+2), someInt(5*i+3), someInt(5*i+4))
	}
}

// A place that is no sequence number stands for its remainder by 2^32, in each
// argument alone. A size and a number of places are not reduced.
func TestPlacesAreReduced(t *testing.T) {
	for _, a := range seqPlaces {
		for _, b := range seqPlaces {
			x, y := exactMod(a, 0, 0), exactMod(b, 0, 0)
			for _, c := range [][2]int{{a, b}, {a, y}, {x, b}} {
				p, q := c[0], c[1]
				if impl.SeqAdd(p, q) != impl.SeqAdd(x, y) || impl.SeqDiff(p, q) != impl.SeqDiff(x, y) || impl.SeqBelow(p, q) != impl.SeqBelow(x, y) || impl.SeqUpTo(p, q) != impl.SeqUpTo(x, y) {
					t.Errorf("%d and %d differ from %d and %d", p, q, x, y)
				}
				for _, size := range seqSizes {
					if impl.InWindow(p, q, size) != impl.InWindow(x, y, size) {
						t.Errorf("InWindow(%d, %d, %d) differs from that of %d and %d", p, q, size, x, y)
					}
					for _, n := range seqRuns {
						if impl.Overlaps(p, n, q, size) != impl.Overlaps(x, n, y, size) {
							t.Errorf("Overlaps(%d, %d, %d, %d) differs from that of %d and %d", p, n, q, size, x, y)
						}
					}
				}
			}
		}
	}
}

// Every function returns, and returns the same again, whatever it is given.
func TestSeqIsTotal(t *testing.T) {
	defer func() {
		if r := recover(); r != nil {
			t.Fatalf("panic: %v", r)
		}
	}()
	check := func(a, b, c, d int) {
		t.Helper()
		if sum := impl.SeqAdd(a, b); sum != impl.SeqAdd(a, b) || !impl.WordOk(sum, 32) {
			t.Errorf("SeqAdd(%d, %d) = %d", a, b, sum)
		}
		if diff := impl.SeqDiff(a, b); diff != impl.SeqDiff(a, b) || !impl.WordOk(diff+half, 32) {
			t.Errorf("SeqDiff(%d, %d) = %d", a, b, diff)
		}
		if impl.SeqBelow(a, b) != impl.SeqBelow(a, b) || impl.SeqUpTo(a, b) != impl.SeqUpTo(a, b) || impl.SeqBelow(a, b) && !impl.SeqUpTo(a, b) {
			t.Errorf("the order of %d and %d", a, b)
		}
		if in := impl.InWindow(a, b, c); in != impl.InWindow(a, b, c) || in && c < 1 {
			t.Errorf("InWindow(%d, %d, %d) = %v", a, b, c, in)
		}
		if over := impl.Overlaps(a, b, c, d); over != impl.Overlaps(a, b, c, d) || over && (b < 1 || d < 1) {
			t.Errorf("Overlaps(%d, %d, %d, %d) = %v", a, b, c, d, over)
		}
	}
	for _, a := range farInts {
		for _, b := range farInts {
			for _, c := range farInts {
				for _, d := range []int{math.MinInt, -1, 0, 1, last, all, math.MaxInt} {
					check(a, b, c, d)
				}
			}
		}
	}
	for i := range 50000 {
		check(someInt(4*i), someInt(4*i+1), someInt(4*i+2), someInt(4*i+3))
	}
}
