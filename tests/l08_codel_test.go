package tests

import (
	"fmt"
	"math/big"
	"math/rand"
	"slices"
	"sync"
	"testing"

	"loop.example/g00685/impl"
)

const lastTime = impl.MaxTime

// The codels of most tests have a target of 5 and look every 100, as the ones named here.
func evenCodel() impl.Codel { return impl.Codel{Target: 5, Every: 100} }

// slowCodel is one that is slow and begins to drop at first.
func slowCodel(first int) impl.Codel { return impl.Codel{Target: 5, Every: 100, First: first} }

// dropCodel is one that drops since 110, and so many have gone.
func dropCodel(next int, count int) impl.Codel {
	return impl.Codel{Target: 5, Every: 100, First: 110, Drop: true, Next: next, Count: count}
}

func codelWith(d impl.Codel, change func(*impl.Codel)) impl.Codel {
	change(&d)
	return d
}

// codelFields are the ways to the numbers of a codel.
func codelFields() map[string]func(*impl.Codel) *int {
	return map[string]func(*impl.Codel) *int{
		"Target": func(d *impl.Codel) *int { return &d.Target },
		"Every":  func(d *impl.Codel) *int { return &d.Every },
		"First":  func(d *impl.Codel) *int { return &d.First },
		"Next":   func(d *impl.Codel) *int { return &d.Next },
		"Count":  func(d *impl.Codel) *int { return &d.Count },
	}
}

// rightCodels are codels at the edges of what CodelOk allows.
func rightCodels() map[string]impl.Codel {
	const span, count = impl.MaxSpan, impl.MaxCount
	return map[string]impl.Codel{
		"even":                     evenCodel(),
		"target 0":                 {Every: 100},
		"target 1":                 {Target: 1, Every: 100},
		"the greatest target":      {Target: span, Every: 100},
		"every 1":                  {Target: 5, Every: 1},
		"the greatest every":       {Target: 5, Every: span},
		"target above every":       {Target: 200, Every: 100},
		"slow":                     slowCodel(110),
		"slow, first 1":            slowCodel(1),
		"slow, first at the end":   slowCodel(lastTime),
		"drops":                    dropCodel(210, 1),
		"drops, first 1":           codelWith(dropCodel(210, 1), func(d *impl.Codel) { d.First = 1 }),
		"drops, first at the end":  codelWith(dropCodel(lastTime, 1), func(d *impl.Codel) { d.First = lastTime }),
		"drops, next 0":            dropCodel(0, 1),
		"drops, next 1":            dropCodel(1, 1),
		"drops, next ahead":        dropCodel(109, 1),
		"drops, next at the end":   dropCodel(lastTime, 1),
		"drops, two went":          dropCodel(280, 2),
		"drops, one less than all": dropCodel(280, count-1),
		"drops, the most went":     dropCodel(280, count),
		"all at the least":         {Every: 1, First: 1, Drop: true, Count: 1},
		"all at the greatest":      {Target: span, Every: span, First: lastTime, Drop: true, Next: lastTime, Count: count},
		"slow, target 0, every 1":  {Every: 1, First: 1},
		"slow at the greatest":     {Target: span, Every: span, First: lastTime},
	}
}

// wrongCodels are codels of which CodelOk is false, each by one thing.
func wrongCodels() map[string]impl.Codel {
	wrong := map[string]impl.Codel{
		"nothing":                        {},
		"drops with Count 0":             dropCodel(210, 0),
		"drops with First 0":             codelWith(dropCodel(210, 1), func(d *impl.Codel) { d.First = 0 }),
		"drops with neither":             {Target: 5, Every: 100, Drop: true},
		"drops with Next alone":          {Target: 5, Every: 100, Drop: true, Next: 210},
		"even with a Next":               codelWith(evenCodel(), func(d *impl.Codel) { d.Next = 1 }),
		"even with a Next, the greatest": codelWith(evenCodel(), func(d *impl.Codel) { d.Next = lastTime }),
		"even with a Count":              codelWith(evenCodel(), func(d *impl.Codel) { d.Count = 1 }),
		"even with a Count, greatest":    codelWith(evenCodel(), func(d *impl.Codel) { d.Count = impl.MaxCount }),
		"slow with a Next":               codelWith(slowCodel(110), func(d *impl.Codel) { d.Next = 210 }),
		"slow with a Count":              codelWith(slowCodel(110), func(d *impl.Codel) { d.Count = 1 }),
		"slow with both":                 codelWith(dropCodel(210, 1), func(d *impl.Codel) { d.Drop = false }),
	}
	for name, d := range map[string]impl.Codel{"even": evenCodel(), "slow": slowCodel(110), "drops": dropCodel(210, 3)} {
		for field, most := range map[string]int{"Target": impl.MaxSpan, "Every": impl.MaxSpan, "First": lastTime, "Next": lastTime, "Count": impl.MaxCount} {
			for _, n := range []int{minInt, minInt + 1, -impl.MaxSpan, -1, most + 1, impl.MaxInt - 1, impl.MaxInt} {
				one := d
				*codelFields()[field](&one) = n
				wrong[fmt.Sprintf("%s, %s %d", name, field, n)] = one
			}
		}
		wrong[name+", Every 0"] = codelWith(d, func(d *impl.Codel) { d.Every = 0 })
	}
	return wrong
}

func noWaits() []int { return []int{-2, -3, minInt, minInt + 1, lastTime + 1, impl.MaxInt} }

func TestCodelConstants(t *testing.T) {
	if impl.MaxCount != 100000 {
		t.Error("MaxCount isn't what the document says")
	}
}

func TestCodelOk(t *testing.T) {
	for name, d := range rightCodels() {
		if !impl.CodelOk(d) {
			t.Errorf("%s: CodelOk says false", name)
		}
	}
	for name, d := range wrongCodels() {
		if impl.CodelOk(d) {
			t.Errorf("%s: CodelOk says true", name)
		}
	}
}

func within(n int, lo int, hi int) bool { return n >= lo && n <= hi }

// wantCodelOk and the other functions that begin so say what the document says, in the plainest way.
func wantCodelOk(d impl.Codel) bool {
	right := within(d.Target, 0, 100000) && within(d.Every, 1, 100000)
	right = right && within(d.First, 0, 1000000000) && within(d.Next, 0, 1000000000) && within(d.Count, 0, 100000)
	if d.Drop {
		return right && d.Count >= 1 && d.First != 0
	}
	return right && d.Next == 0 && d.Count == 0
}

// edgeCodels shows every field at all its edges, beside all edges of the others.
func edgeCodels(see func(impl.Codel)) {
	spans := []int{minInt, -1, 0, 1, impl.MaxSpan, impl.MaxSpan + 1, impl.MaxInt}
	times := []int{minInt, -1, 0, 1, lastTime, lastTime + 1, impl.MaxInt}
	counts := []int{minInt, -1, 0, 1, 2, impl.MaxCount - 1, impl.MaxCount, impl.MaxCount + 1, impl.MaxInt}
	for _, target := range spans {
		for _, every := range spans {
			for _, first := range times {
				for _, next := range times {
					for _, count := range counts {
						d := impl.Codel{Target: target, Every: every, First: first, Next: next, Count: count}
						see(d)
						d.Drop = true
						see(d)
					}
				}
			}
		}
	}
}

func TestCodelOkAtAllEdges(t *testing.T) {
	edgeCodels(func(d impl.Codel) {
		if got := impl.CodelOk(d); got != wantCodelOk(d) {
			t.Errorf("CodelOk(%+v) = %v", d, got)
		}
	})
}

func TestCodelNew(t *testing.T) {
	for _, target := range []int{0, 1, 5, impl.MaxSpan - 1, impl.MaxSpan} {
		for _, every := range []int{1, 2, 100, impl.MaxSpan - 1, impl.MaxSpan} {
			d, ok := impl.CodelNew(target, every)
			if !ok || d != (impl.Codel{Target: target, Every: every}) || !impl.CodelOk(d) {
				t.Errorf("CodelNew(%d, %d) = %+v, %v", target, every, d, ok)
			}
		}
	}
}

func TestCodelNewAtWrongInputs(t *testing.T) {
	refuse := func(target int, every int) {
		t.Helper()
		if d, ok := impl.CodelNew(target, every); ok || d != (impl.Codel{}) {
			t.Errorf("CodelNew(%d, %d) = %+v, %v, want nothing and false", target, every, d, ok)
		}
	}
	wrong := []int{minInt, minInt + 1, -5, -1, impl.MaxSpan + 1, impl.MaxInt - 1, impl.MaxInt}
	for _, n := range wrong {
		for _, right := range []int{1, 100, impl.MaxSpan} {
			refuse(n, right)
			refuse(right, n)
		}
		for _, m := range append(wrong, 0) {
			refuse(n, m)
		}
		refuse(0, n)
	}
	for _, target := range []int{0, 1, 5, impl.MaxSpan} {
		refuse(target, 0)
	}
}

func TestPace(t *testing.T) {
	const span, count = impl.MaxSpan, impl.MaxCount
	for _, c := range []struct{ every, count, want int }{
		{1000, 1, 1000},
		{1000, 2, 707}, // the root is that of the count with three places more, 1414
		{1000, 3, 577},
		// just below, at and just above a square
		{1000, 4, 500},
		{1000, 5, 447},
		{1000, 8, 353},
		{1000, 9, 333},
		{1000, 10, 316},
		{1000, 15, 258},
		{1000, 16, 250},
		{1000, 17, 242},
		{1000, 99, 100},
		{1000, 100, 100},
		{1000, 101, 99},
		{span, 3, 57736},
		{span, 4, 50000},
		{span, 5, 44722},
		{span, 99855, 316},
		{span, 99856, 316}, // 316 316
		{span, 99857, 316},
		{100, 1, 100},
		{100, 2, 70},
		{100, 3, 57},
		{100, 4, 50},
		// both ends
		{span, 1, span},
		{span, 2, 70721},
		{span, count - 1, 316},
		{span, count, 316},
		{span - 1, 1, span - 1},
		{1000, count, 3},
		{2, 1, 2},
		// about 1, and below it, where 1 is told
		{1, 1, 1},
		{1, 2, 1},
		{1, 9, 1},
		{1, count, 1},
		{2, 2, 1},
		{2, 4, 1},
		{2, 5, 1},
		{3, 2, 2},
		{3, 3, 1},
		{3, 8, 1},
		{3, 9, 1},
		{3, 10, 1},
		{316, count, 1},
		{317, count, 1},
		{632, count, 1},
		{633, count, 2},
	} {
		if got := impl.Pace(c.every, c.count); got != c.want {
			t.Errorf("Pace(%d, %d) = %d, want %d", c.every, c.count, got, c.want)
		}
	}
}

func TestPaceAtWrongInputs(t *testing.T) {
	everys := []int{minInt, minInt + 1, -100, -1, 0, impl.MaxSpan + 1, impl.MaxInt - 1, impl.MaxInt}
	counts := []int{minInt, minInt + 1, -4, -1, 0, impl.MaxCount + 1, impl.MaxInt / 1000000, impl.MaxInt - 1, impl.MaxInt}
	refuse := func(every int, count int) {
		t.Helper()
		if got := impl.Pace(every, count); got != 0 {
			t.Errorf("Pace(%d, %d) = %d, want 0", every, count, got)
		}
	}
	for _, every := range everys {
		for _, count := range append([]int{1, 4, impl.MaxCount}, counts...) {
			refuse(every, count)
		}
	}
	for _, count := range counts {
		for _, every := range []int{1, 100, impl.MaxSpan} {
			refuse(every, count)
		}
	}
}

// wantPace takes its root of a big number, which is exact.
func wantPace(every int, count int) int {
	if !within(every, 1, 100000) || !within(count, 1, 100000) {
		return 0
	}
	root := new(big.Int).Mul(big.NewInt(1000000), big.NewInt(int64(count)))
	root.Sqrt(root)
	pace := new(big.Int).Mul(big.NewInt(1000), big.NewInt(int64(every)))
	return max(1, int(pace.Div(pace, root).Int64()))
}

// P7: the more went, the sooner the next one goes: along all counts the pace never rises, and it begins at every.
func TestPaceNeverRises(t *testing.T) {
	for _, every := range []int{1, 2, 3, 100, 316, 317, 1000, 33333, impl.MaxSpan - 1, impl.MaxSpan} {
		last := every
		for count := 1; count <= impl.MaxCount; count++ {
			pace := impl.Pace(every, count)
			if pace > last || pace < 1 || count == 1 && pace != every {
				t.Fatalf("Pace(%d, %d) = %d, behind %d", every, count, pace, last)
			}
			last = pace
		}
		if last >= every && every > 1 {
			t.Errorf("Pace of %d doesn't quicken", every)
		}
	}
}

func TestPaceAroundEverySquare(t *testing.T) {
	for root := 1; root*root <= impl.MaxCount; root++ {
		for count := root*root - 1; count <= root*root+1; count++ {
			for _, every := range []int{1, root - 1, root, root + 1, 100, 1000 * root, impl.MaxSpan} {
				if got, want := impl.Pace(every, count), wantPace(every, count); got != want {
					t.Errorf("Pace(%d, %d) = %d, want %d", every, count, got, want)
				}
			}
		}
	}
}

func TestPaceEverywhere(t *testing.T) {
	r := rand.New(rand.NewSource(81))
	for range 100000 {
		every, count := someNumber(r, 0, impl.MaxSpan+1), someNumber(r, 0, impl.MaxCount+1)
		if got, want := impl.Pace(every, count), wantPace(every, count); got != want {
			t.Fatalf("Pace(%d, %d) = %d, want %d", every, count, got, want)
		}
	}
}

// checkSee asks for the codel behind a look and whether one goes; the codel must be right.
func checkSee(t *testing.T, name string, d impl.Codel, now int, waited int, want impl.Codel, drops bool) {
	t.Helper()
	got, dropped := impl.See(d, now, waited)
	if got != want || dropped != drops {
		t.Errorf("%s: See(%+v, %d, %d) = %+v, %v, want %+v, %v", name, d, now, waited, got, dropped, want, drops)
	}
	if !impl.CodelOk(got) {
		t.Errorf("%s: See(%+v, %d, %d) makes a wrong codel", name, d, now, waited)
	}
}

// P7: a queue that isn't slow drops nobody and forgets, whatever stood in the codel and whatever the time.
func TestSeeForgets(t *testing.T) {
	for name, d := range rightCodels() {
		even := impl.Codel{Target: d.Target, Every: d.Every}
		for _, now := range []int{0, 1, 109, 110, 209, 210, 280, lastTime - 1, lastTime} {
			checkSee(t, name+", empty", d, now, -1, even, false)
			if d.Target > 0 {
				checkSee(t, name+", one below", d, now, d.Target-1, even, false)
				checkSee(t, name+", came just now", d, now, 0, even, false)
			}
		}
	}
}

func TestSeeAroundTheTarget(t *testing.T) {
	for _, target := range []int{1, 5, impl.MaxSpan} {
		d := impl.Codel{Target: target, Every: 100}
		slow := codelWith(d, func(d *impl.Codel) { d.First = 110 })
		checkSee(t, "below", d, 10, target-1, d, false)
		checkSee(t, "at it", d, 10, target, slow, false)
		checkSee(t, "above", d, 10, target+1, slow, false)
		checkSee(t, "the longest wait", d, 10, lastTime, slow, false)
	}
	none := impl.Codel{Every: 100}
	slow := impl.Codel{Every: 100, First: 110}
	checkSee(t, "target 0, empty", none, 10, -1, none, false)
	checkSee(t, "target 0, came just now", none, 10, 0, slow, false)
	checkSee(t, "target 0, above", none, 10, 1, slow, false)
	checkSee(t, "target 0, slow, and empty then", slow, 110, -1, none, false)
	checkSee(t, "target 0, slow, and due", slow, 110, 0, impl.Codel{Every: 100, First: 110, Drop: true, Next: 210, Count: 1}, true)
}

func TestSeeTurnsSlow(t *testing.T) {
	everyOf := func(every int) impl.Codel { return impl.Codel{Target: 5, Every: every} }
	for _, c := range []struct{ every, now, first int }{
		{100, 0, 100},
		{1, 0, 1},
		{impl.MaxSpan, 0, impl.MaxSpan},
		{100, 1, 101},
		{1, 9, 10},
		// so late that the sum stops at the end of time
		{100, lastTime - 101, lastTime - 1},
		{100, lastTime - 100, lastTime},
		{100, lastTime - 99, lastTime},
		{100, lastTime, lastTime},
		{1, lastTime - 1, lastTime},
		{1, lastTime, lastTime},
		{impl.MaxSpan, lastTime - impl.MaxSpan, lastTime},
		{impl.MaxSpan, lastTime - impl.MaxSpan + 1, lastTime},
	} {
		want := codelWith(everyOf(c.every), func(d *impl.Codel) { d.First = c.first })
		checkSee(t, "turns slow", everyOf(c.every), c.now, 5, want, false)
	}
}

func TestSeeBeginsToDrop(t *testing.T) {
	for _, c := range []struct {
		first, now int
		drops      bool
		next       int
	}{
		{110, 0, false, 0},
		{110, 10, false, 0},
		{110, 109, false, 0},
		{110, 110, true, 210},
		{110, 111, true, 211}, // told from now, not from First
		{110, 5000, true, 5100},
		{1, 0, false, 0},
		{1, 1, true, 101},
		// where the sum stops at the end of time
		{110, lastTime - 101, true, lastTime - 1},
		{110, lastTime - 100, true, lastTime},
		{110, lastTime - 99, true, lastTime},
		{110, lastTime, true, lastTime},
		{lastTime, lastTime - 1, false, 0},
		{lastTime, lastTime, true, lastTime},
	} {
		want := slowCodel(c.first)
		if c.drops {
			want.Drop, want.Next, want.Count = true, c.next, 1
		}
		checkSee(t, "begins", slowCodel(c.first), c.now, 5, want, c.drops)
		checkSee(t, "begins, waited longer", slowCodel(c.first), c.now, lastTime, want, c.drops)
	}
}

func TestSeeDropsOn(t *testing.T) {
	const most = impl.MaxCount
	for _, c := range []struct {
		next, count, now int
		drops            bool
		then, counted    int
	}{
		{210, 1, 0, false, 210, 1},
		{210, 1, 110, false, 210, 1}, // First is of no more account
		{210, 1, 209, false, 210, 1},
		{210, 1, 210, true, 280, 2},
		{210, 1, 211, true, 280, 2}, // told from Next, not from now
		{210, 1, 5000, true, 280, 2},
		{280, 2, 279, false, 280, 2},
		{280, 2, 280, true, 337, 3},
		{337, 3, 337, true, 387, 4},
		{387, 4, 387, true, 431, 5},
		{0, 1, 0, true, 70, 2},
		{1, 1, 0, false, 1, 1},
		{1, 1, 1, true, 71, 2},
		// the most that may have gone
		{210, most - 2, 210, true, 211, most - 1},
		{210, most - 1, 209, false, 210, most - 1},
		{210, most - 1, 210, true, 211, most},
		{210, most, 209, false, 210, most},
		{210, most, 210, true, 211, most},
		// where the sum stops at the end of time
		{lastTime - 71, 1, lastTime - 71, true, lastTime - 1, 2},
		{lastTime - 70, 1, lastTime, true, lastTime, 2},
		{lastTime - 69, 1, lastTime, true, lastTime, 2},
		{lastTime - 1, 1, lastTime - 2, false, lastTime - 1, 1},
		{lastTime, 1, lastTime - 1, false, lastTime, 1},
		{lastTime, 1, lastTime, true, lastTime, 2},
		{lastTime, most, lastTime, true, lastTime, most},
	} {
		want := dropCodel(c.then, c.counted)
		checkSee(t, "drops on", dropCodel(c.next, c.count), c.now, 5, want, c.drops)
		checkSee(t, "drops on, waited longer", dropCodel(c.next, c.count), c.now, lastTime, want, c.drops)
	}
}

func checkNothingSeen(t *testing.T, name string, d impl.Codel, now int, waited int) {
	t.Helper()
	if got, dropped := impl.See(d, now, waited); dropped || got != (impl.Codel{}) {
		t.Errorf("%s: See(%+v, %d, %d) = %+v, %v, want nothing and false", name, d, now, waited, got, dropped)
	}
}

func TestSeeAtWrongInputs(t *testing.T) {
	for name, d := range wrongCodels() {
		for _, now := range append(noTimes(), 0, 110, 210, lastTime) {
			for _, waited := range append(noWaits(), -1, 0, 4, 5, lastTime) {
				checkNothingSeen(t, name, d, now, waited)
			}
		}
	}
	for name, d := range rightCodels() {
		for _, now := range noTimes() {
			for _, waited := range []int{-2, -1, 0, 4, 5, 6, lastTime, lastTime + 1} {
				checkNothingSeen(t, name, d, now, waited)
			}
		}
		for _, waited := range noWaits() {
			for _, now := range []int{0, 1, 109, 110, 210, lastTime} {
				checkNothingSeen(t, name, d, now, waited)
			}
		}
	}
}

func wantAddTime(a int, b int) int { return min(a+b, 1000000000) }

func wantSee(d impl.Codel, now int, waited int) (impl.Codel, bool) {
	if !wantCodelOk(d) || !within(now, 0, 1000000000) || !within(waited, -1, 1000000000) {
		return impl.Codel{}, false
	}
	if waited == -1 || waited < d.Target {
		d.First, d.Drop, d.Next, d.Count = 0, false, 0, 0
		return d, false
	}
	switch {
	case !d.Drop && d.First == 0:
		d.First = max(1, wantAddTime(now, d.Every))
		return d, false
	case !d.Drop && now >= d.First:
		d.Drop, d.Count, d.Next = true, 1, wantAddTime(now, d.Every)
		return d, true
	case d.Drop && now >= d.Next:
		d.Count = min(d.Count+1, 100000)
		d.Next = wantAddTime(d.Next, wantPace(d.Every, d.Count))
		return d, true
	}
	return d, false
}

func wantSeeAll(d impl.Codel, now int, waits []int) (impl.Codel, int) {
	if !wantCodelOk(d) || !within(now, 0, 1000000000) {
		return impl.Codel{}, 0
	}
	for _, waited := range waits {
		if !within(waited, 0, 1000000000) {
			return impl.Codel{}, 0
		}
	}
	for dropped := 0; ; dropped++ {
		waited := -1
		if dropped < len(waits) {
			waited = waits[dropped]
		}
		var goes bool
		if d, goes = wantSee(d, now, waited); !goes {
			return d, dropped
		}
	}
}

// P10: every field at all its edges, with the greatest and the least int in each argument.
func TestSeeAtAllEdges(t *testing.T) {
	nows := []int{minInt, -1, 0, 1, lastTime, lastTime + 1, impl.MaxInt}
	waits := []int{minInt, -2, -1, 0, impl.MaxSpan, lastTime, lastTime + 1, impl.MaxInt}
	place := 0
	edgeCodels(func(d impl.Codel) {
		place++
		for i, now := range nows {
			if !impl.CodelOk(d) && i != place%len(nows) {
				continue // of a codel that is wrong, one of the times is enough
			}
			for _, waited := range waits {
				got, dropped := impl.See(d, now, waited)
				if want, drops := wantSee(d, now, waited); got != want || dropped != drops {
					t.Fatalf("See(%+v, %d, %d) = %+v, %v, want %+v, %v", d, now, waited, got, dropped, want, drops)
				}
				all, count := impl.SeeAll(d, now, []int{waited, 7, 9})
				if want, wantCount := wantSeeAll(d, now, []int{waited, 7, 9}); all != want || count != wantCount {
					t.Fatalf("SeeAll(%+v, %d, %d 7 9) = %+v, %d, want %+v, %d", d, now, waited, all, count, want, wantCount)
				}
			}
		}
	})
}

// someCodel is a codel of any kind, with many small numbers; now and then it isn't right.
func someCodel(r *rand.Rand) impl.Codel {
	d := impl.Codel{Target: someNumber(r, 0, impl.MaxSpan), Every: someNumber(r, 1, impl.MaxSpan)}
	if r.Intn(2) == 0 {
		d.Target, d.Every = r.Intn(8), 1+r.Intn(30)
	}
	switch r.Intn(3) {
	case 0:
		d.First = someNumber(r, 1, lastTime)
	case 1:
		d.Drop, d.First, d.Next, d.Count = true, someNumber(r, 1, lastTime), someNumber(r, 0, lastTime), someNumber(r, 1, impl.MaxCount)
	}
	if r.Intn(12) == 0 {
		for _, field := range codelFields() {
			if r.Intn(3) == 0 {
				*field(&d) = []int{minInt, -1, 0, 1, impl.MaxSpan + 1, lastTime + 1, impl.MaxInt}[r.Intn(7)]
			}
		}
	}
	return d
}

// timesBeside are times at which something may change for a codel, with both ends.
func timesBeside(r *rand.Rand, d impl.Codel) []int {
	l := []int{0, lastTime, r.Intn(60), someNumber(r, 0, lastTime), lastTime - r.Intn(60)}
	for _, mid := range []int{d.First, d.Next} {
		if within(mid, 1, lastTime-1) {
			l = append(l, mid-1, mid, mid+1, min(lastTime, mid+r.Intn(100)), min(lastTime, mid+r.Intn(100000)))
		}
	}
	return l
}

// someWaits are as many waits as may stand in a queue, most of them above the target; now and then one is wrong.
func someWaits(r *rand.Rand, target int) []int {
	var waits []int
	for range r.Intn(1 + r.Intn(60)) {
		wait := max(0, target+r.Intn(40))
		if r.Intn(25) == 0 {
			wait = max(0, target-1-r.Intn(3))
		}
		waits = append(waits, min(wait, lastTime))
	}
	if len(waits) > 0 && r.Intn(12) == 0 {
		waits[r.Intn(len(waits))] = []int{minInt, -2, -1, lastTime + 1, impl.MaxInt}[r.Intn(5)]
	}
	return waits
}

// P10: codels of every kind, seen at times near those at which something changes.
func TestCodelsEverywhere(t *testing.T) {
	r := rand.New(rand.NewSource(82))
	right, wrong, several := 0, 0, 0
	for range 20000 {
		d := someCodel(r)
		if impl.CodelOk(d) != wantCodelOk(d) {
			t.Fatalf("CodelOk(%+v) = %v", d, impl.CodelOk(d))
		}
		if wantCodelOk(d) {
			right++
		} else {
			wrong++
		}
		for _, now := range timesBeside(r, d) {
			for _, waited := range []int{-1, 0, d.Target, someNumber(r, -2, lastTime+1)} {
				got, dropped := impl.See(d, now, waited)
				if want, drops := wantSee(d, now, waited); got != want || dropped != drops {
					t.Fatalf("See(%+v, %d, %d) = %+v, %v, want %+v, %v", d, now, waited, got, dropped, want, drops)
				}
			}
			waits := someWaits(r, d.Target)
			got, count := impl.SeeAll(d, now, waits)
			if want, wantCount := wantSeeAll(d, now, waits); got != want || count != wantCount {
				t.Fatalf("SeeAll(%+v, %d, %v) = %+v, %d, want %+v, %d", d, now, waits, got, count, want, wantCount)
			}
			if count > 1 {
				several++
			}
		}
	}
	if right < 15000 || wrong < 500 || several < 2000 {
		t.Errorf("the test met %d right and %d wrong codels, and %d times several that went", right, wrong, several)
	}
}

func TestSeeAll(t *testing.T) {
	d := dropCodel(210, 1) // the next ones go at 210, 280, 337, 387 and 431
	for _, c := range []struct {
		name  string
		d     impl.Codel
		now   int
		waits []int
		want  impl.Codel
		count int
	}{
		{"nobody waits", evenCodel(), 300, nil, evenCodel(), 0},
		{"nobody waits, an empty list", evenCodel(), 300, []int{}, evenCodel(), 0},
		{"nobody waits any more, it was slow", slowCodel(110), 300, nil, evenCodel(), 0},
		{"nobody waits any more, it dropped", d, 300, nil, evenCodel(), 0},
		{"one, not slow", d, 300, []int{4}, evenCodel(), 0},
		{"one, turns slow", evenCodel(), 300, []int{5}, slowCodel(400), 0},
		{"many, turns slow", evenCodel(), 300, []int{90, 80, 70}, slowCodel(400), 0},
		{"one, slow and not due", slowCodel(301), 300, []int{90}, slowCodel(301), 0},
		{"one, begins, and nobody is left", slowCodel(300), 300, []int{90}, evenCodel(), 1},
		{"one, drops on, and nobody is left", d, 300, []int{90}, evenCodel(), 1},
		{"begins, and the second isn't due", slowCodel(300), 300, []int{90, 80}, codelWith(dropCodel(400, 1), func(d *impl.Codel) { d.First = 300 }), 1},
		{"begins, and the second isn't slow", slowCodel(300), 300, []int{90, 4}, evenCodel(), 1},
		{"begins at the end of time, and goes on", slowCodel(lastTime), lastTime, []int{90, 80, 70}, evenCodel(), 3},
		{"none is due", d, 209, []int{90, 80, 70}, d, 0},
		{"one is due", d, 210, []int{90, 80, 70}, dropCodel(280, 2), 1},
		{"still one is due", d, 279, []int{90, 80, 70}, dropCodel(280, 2), 1},
		{"two are due", d, 280, []int{90, 80, 70}, dropCodel(337, 3), 2},
		{"three are due, one is left", d, 337, []int{90, 80, 70, 60}, dropCodel(387, 4), 3},
		{"all are due, nobody is left", d, 337, []int{90, 80, 70}, evenCodel(), 3},
		{"more are due than wait", d, 5000, []int{90, 80, 70}, evenCodel(), 3},
		{"the first isn't slow", d, 5000, []int{4, 80, 70}, evenCodel(), 0},
		{"one in the midst isn't slow", d, 5000, []int{90, 4, 70}, evenCodel(), 1},
		{"one in the midst came just now", d, 5000, []int{90, 80, 0, 60}, evenCodel(), 2},
		{"the last isn't slow", d, 5000, []int{90, 80, 4}, evenCodel(), 2},
		{"behind one that isn't slow nobody is looked at", d, 5000, []int{4, lastTime}, evenCodel(), 0},
		{"one in the midst is slow but not due", d, 210, []int{90, 5, 4}, dropCodel(280, 2), 1},
		{"just at the target", d, 337, []int{5, 5, 5, 5}, dropCodel(387, 4), 3},
		{"the most that may have gone", dropCodel(210, impl.MaxCount), 211, []int{5, 5, 5}, dropCodel(212, impl.MaxCount), 2},
		{"the longest waits at the end", d, lastTime, []int{lastTime, lastTime}, evenCodel(), 2},
		{"at time 0", slowCodel(1), 0, []int{lastTime}, slowCodel(1), 0},
	} {
		got, count := impl.SeeAll(c.d, c.now, c.waits)
		if got != c.want || count != c.count || !impl.CodelOk(got) {
			t.Errorf("%s: SeeAll(%+v, %d, %v) = %+v, %d, want %+v, %d", c.name, c.d, c.now, c.waits, got, count, c.want, c.count)
		}
	}
}

func repeatedWait(wait int, count int) []int { return slices.Repeat([]int{wait}, count) }

// More go at one look than may be counted: the count stands still at its end, and the pace with it.
func TestSeeAllOfVeryMany(t *testing.T) {
	const more = impl.MaxCount + 3
	d := impl.Codel{Target: 2, Every: 1, First: 1, Drop: true, Next: 1, Count: 1}
	got, count := impl.SeeAll(d, more, repeatedWait(9, more+5))
	want := impl.Codel{Target: 2, Every: 1, First: 1, Drop: true, Next: more + 1, Count: impl.MaxCount}
	if got != want || count != more {
		t.Errorf("of very many %d went, and the codel is %+v, want %d and %+v", count, got, more, want)
	}
	got, count = impl.SeeAll(d, lastTime, repeatedWait(9, more))
	if got != (impl.Codel{Target: 2, Every: 1}) || count != more {
		t.Errorf("of %d that are all due %d went, and the codel is %+v", more, count, got)
	}
}

func checkNoneSeen(t *testing.T, name string, d impl.Codel, now int, waits []int) {
	t.Helper()
	if got, count := impl.SeeAll(d, now, waits); count != 0 || got != (impl.Codel{}) {
		t.Errorf("%s: SeeAll(%+v, %d, %v) = %+v, %d, want nothing and 0", name, d, now, waits, got, count)
	}
}

func TestSeeAllAtWrongInputs(t *testing.T) {
	for name, d := range wrongCodels() {
		for _, now := range append(noTimes(), 0, 110, 5000, lastTime) {
			checkNoneSeen(t, name, d, now, nil)
			checkNoneSeen(t, name, d, now, []int{4})
			checkNoneSeen(t, name, d, now, []int{90, 80, 70})
		}
	}
	for name, d := range rightCodels() {
		for _, now := range noTimes() {
			checkNoneSeen(t, name, d, now, nil)
			checkNoneSeen(t, name, d, now, []int{4})
			checkNoneSeen(t, name, d, now, []int{90, 80, 70})
		}
	}
}

// A wait that is wrong makes the answer nothing wherever it stands, also behind where the looking ends.
func TestSeeAllAtWrongWaits(t *testing.T) {
	lists := map[string][]int{
		"one":                {90},
		"all go":             {90, 80, 70},
		"ends at once":       {4, 80, 70},
		"ends in the midst":  {90, 4, 70, 60, 50},
		"ends at one of 0":   {90, 80, 0, 60},
		"as many as may be":  repeatedWait(90, impl.MaxRoom),
		"ends, and many are": append([]int{90, 1}, repeatedWait(90, impl.MaxRoom-2)...),
	}
	for name, l := range lists {
		for place := range l {
			for _, wait := range append(noWaits(), -1) {
				waits := slices.Clone(l)
				waits[place] = wait
				for what, d := range map[string]impl.Codel{"even": evenCodel(), "slow": slowCodel(110), "drops": dropCodel(210, 1)} {
					for _, now := range []int{0, 209, 210, 5000, lastTime} {
						checkNoneSeen(t, fmt.Sprintf("%s, %s, %d at %d", name, what, wait, place), d, now, waits)
					}
				}
			}
		}
	}
}

// SeeAll answers as See does, one after the other.
func TestSeeAllIsSeeOneByOne(t *testing.T) {
	r := rand.New(rand.NewSource(83))
	for range 5000 {
		d := someCodel(r)
		waits := someWaits(r, d.Target)
		if !impl.CodelOk(d) || slices.ContainsFunc(waits, func(w int) bool { return !within(w, 0, lastTime) }) {
			continue
		}
		for _, now := range timesBeside(r, d) {
			one, count := d, 0
			for goes := true; goes && count <= len(waits); {
				waited := -1
				if count < len(waits) {
					waited = waits[count]
				}
				if one, goes = impl.See(one, now, waited); goes {
					count++
				}
			}
			if got, went := impl.SeeAll(d, now, waits); got != one || went != count {
				t.Fatalf("SeeAll(%+v, %d, %v) = %+v, %d, one by one it is %+v, %d", d, now, waits, got, went, one, count)
			}
		}
	}
}

// onlooker knows of a queue since when it is slow (-1 where it isn't), how many went since, and when the next one may.
type onlooker struct {
	since int
	count int
	due   int
}

// look tells whether one goes at now: the first a whole every behind the first slow look, the second as long behind the first, each later one by the pace behind when the one ahead of it was due.
func (x *onlooker) look(target int, every int, now int, waited int) bool {
	if waited < target {
		*x = onlooker{since: -1}
		return false
	}
	if x.since < 0 {
		*x = onlooker{since: now, due: now + every}
		return false
	}
	if now < x.due {
		return false
	}
	if x.count == 0 {
		x.due = now + every
	} else {
		x.due += wantPace(every, x.count+1)
	}
	x.count++
	return true
}

// P7 along a run: who isn't slow drops nobody and forgets; who is slow drops nobody ahead of its time, and each one when it is.
func TestACodelInUse(t *testing.T) {
	r := rand.New(rand.NewSource(84))
	went, forgot := 0, 0
	for range 300 {
		target, every := r.Intn(10), 1+r.Intn(60)
		d, _ := impl.CodelNew(target, every)
		even := d
		x := onlooker{since: -1}
		now := r.Intn(50)
		slow := 1 + r.Intn(60)
		for range 400 {
			now += r.Intn(9)
			waited := target + r.Intn(20)
			if r.Intn(slow) == 0 {
				waited = r.Intn(target+1) - 1
			}
			next, dropped := impl.See(d, now, waited)
			if may := x.look(target, every, now, waited); dropped != may {
				t.Fatalf("at %d behind %+v, with %d: dropped %v, want %v", now, d, waited, dropped, may)
			}
			if !impl.CodelOk(next) || next.Count != x.count || next.Drop != (x.count > 0) || next.Drop && next.Next != x.due {
				t.Fatalf("behind %+v at %d comes %+v, want %+v", d, now, next, x)
			}
			if waited < target {
				forgot++
				if next != even || dropped {
					t.Fatalf("a queue that isn't slow doesn't forget: %+v, %v", next, dropped)
				}
			}
			if dropped {
				went++
			}
			d = next
		}
	}
	if went < 2000 || forgot < 2000 {
		t.Errorf("%d went and %d times it forgot", went, forgot)
	}
}

// P7: a queue that stays slow, seen at every time: the first goes just an Every behind the first look, and the time from one to the next never grows, and shrinks in the end.
func TestTheNextOneGoesSooner(t *testing.T) {
	for _, every := range []int{1, 2, 3, 10, 100, 1000} {
		d, _ := impl.CodelNew(5, every)
		const begun = 40
		var gone []int
		for now := begun; now < begun+40*every; now++ {
			var dropped bool
			if d, dropped = impl.See(d, now, 5+now); dropped {
				gone = append(gone, now)
			}
		}
		if len(gone) < 38 || gone[0] != begun+every || gone[1] != gone[0]+every {
			t.Fatalf("every %d: %v went", every, gone)
		}
		for i := 2; i < len(gone); i++ {
			gap, ahead := gone[i]-gone[i-1], gone[i-1]-gone[i-2]
			if gap > ahead || gap != wantPace(every, i) {
				t.Fatalf("every %d: from %d to %d there are %d, ahead of that %d", every, i-1, i, gap, ahead)
			}
		}
		if last := gone[len(gone)-1] - gone[len(gone)-2]; every > 1 && 3*last > 2*every {
			t.Errorf("every %d: the last gap is %d still", every, last)
		}
	}
}

// P7: whoever looks more rarely drops no more than who looks always; one look at many takes all that are due.
func TestRareLooksDropNobodyAheadOfTime(t *testing.T) {
	r := rand.New(rand.NewSource(85))
	for range 300 {
		every := 1 + r.Intn(50)
		always, _ := impl.CodelNew(5, every)
		rare := always
		all, few := 0, 0
		for now := range 1500 {
			var went int
			always, went = impl.SeeAll(always, now, repeatedWait(9, impl.MaxRoom))
			all += went
			if r.Intn(40) != 0 {
				continue
			}
			rare, went = impl.SeeAll(rare, now, repeatedWait(9, impl.MaxRoom))
			if few += went; few > all {
				t.Fatalf("every %d, at %d: %d went by rare looks, %d by all", every, now, few, all)
			}
			if rare.Drop && rare.Next <= now {
				t.Fatalf("at %d the next one was due at %d: %+v", now, rare.Next, rare)
			}
		}
		if all == 0 || few == 0 {
			t.Fatalf("every %d: nobody went, %d and %d", every, all, few)
		}
	}
}

// Chapter 1: no argument is changed, and what a call answers hangs on its arguments alone.
func TestCodelsAreLeftAlone(t *testing.T) {
	given := rightCodels()
	for name, d := range wrongCodels() {
		given["wrong: "+name] = d
	}
	for name, d := range given {
		for _, now := range []int{minInt, -1, 0, 110, 210, 5000, lastTime, lastTime + 1, impl.MaxInt} {
			for _, waits := range [][]int{nil, {4}, {90}, {90, 80, 70}, {90, 4, 70}, {90, -1, 70}, {90, 80, impl.MaxInt}} {
				before := d
				// room behind the waits, into which an append would write
				under := append(slices.Clone(waits), 33, 44)
				own := under[:len(waits):len(under)]
				whole := slices.Clone(under)
				all, count := impl.SeeAll(d, now, own)
				one, dropped := impl.See(d, now, 9)
				impl.CodelOk(d)
				impl.SeeAll(dropCodel(1, 7), lastTime, []int{9, 9, 9, 9})
				impl.Pace(77, 7)
				if d != before || !slices.Equal(under, whole) {
					t.Errorf("%s: a call at %d changed its argument", name, now)
				}
				again, countAgain := impl.SeeAll(d, now, own)
				oneAgain, droppedAgain := impl.See(d, now, 9)
				if again != all || countAgain != count || oneAgain != one || droppedAgain != dropped {
					t.Errorf("%s: a second call at %d answers something else", name, now)
				}
			}
		}
	}
}

// Chapter 1: called again and again, and by many at once, a call answers alike.
func TestCodelCallsKeepNothing(t *testing.T) {
	given := []impl.Codel{evenCodel(), slowCodel(110), dropCodel(210, 1), dropCodel(lastTime, impl.MaxCount), {}, {Every: 1}}
	waits := []int{90, 80, 70, 4, 60}
	var all sync.WaitGroup
	for range 4 {
		all.Go(func() {
			for round := range 300 {
				for _, d := range given {
					now := 5 * round
					got, dropped := impl.See(d, now, 9)
					want, drops := wantSee(d, now, 9)
					many, count := impl.SeeAll(d, now, waits)
					wantMany, wantCount := wantSeeAll(d, now, waits)
					if got != want || dropped != drops || many != wantMany || count != wantCount {
						t.Errorf("See or SeeAll differ from call to call")
					}
					if impl.CodelOk(d) != wantCodelOk(d) || impl.Pace(now, round) != wantPace(now, round) {
						t.Errorf("CodelOk or Pace differ from call to call")
					}
				}
			}
		})
	}
	all.Wait()
}
