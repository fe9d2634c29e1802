package tests

import (
	"maps"
	"slices"
	"sync"
	"testing"
)

// checkAtOnce runs eight workers at the same time. Each of them counts in faults,
// by the name of the function, the calls that were wrong.
func checkAtOnce(t *testing.T, work func(worker int, faults map[string]int)) {
	t.Helper()
	var group sync.WaitGroup
	var lock sync.Mutex
	found := map[string]int{}
	for worker := range 8 {
		group.Go(func() {
			faults := map[string]int{}
			work(worker, faults)
			lock.Lock()
			defer lock.Unlock()
			for name, count := range faults {
				found[name] += count
			}
		})
	}
	group.Wait()
	for _, name := range slices.Sorted(maps.Keys(found)) {
		t.Errorf("%s was wrong %d times", name, found[name])
	}
}
