package tests

import (
	"fmt"
	"math/rand"
	"reflect"
	"slices"
	"sync"
	"testing"

	"loop.example/g00685/impl"
)

// plainCfg is a configuration in the midst of what CfgOk allows.
func plainCfg() impl.Cfg {
	lim := impl.LimCfg{Kind: impl.LmSteps, Min: 2, Max: 20, Span: 1000, Slow: 50}
	return impl.Cfg{Lim: lim, Start: 10, Cap: 3, Tiers: 3, Room: 5, Wait: 500, Target: 5, Every: 100, Burst: 4, Rate: 100}
}

// plainWith is the plain configuration in which some things are changed.
func plainWith(change func(*impl.Cfg)) impl.Cfg {
	c := plainCfg()
	change(&c)
	return c
}

// newAdm is a machine that is new, told part by part.
func newAdm(c impl.Cfg) impl.Adm {
	a := impl.Adm{Cfg: c}
	a.Lim = impl.Lim{Cfg: c.Lim, Limit: c.Start, Win: impl.Window{Span: c.Lim.Span}}
	a.Q.Room = c.Room
	for range c.Tiers {
		a.Slow = append(a.Slow, impl.Codel{Target: c.Target, Every: c.Every})
	}
	a.Tries = impl.Bucket{Burst: c.Burst, Rate: c.Rate, Have: 1000 * c.Burst}
	return a
}

// busyAdm is a machine at 100 in which three wait, three fly beside two free slots, two have ended, and every tier has another codel.
func busyAdm() impl.Adm {
	a := newAdm(plainCfg())
	a.Now = 100
	a.Lim.Limit, a.Lim.Good, a.Lim.Avg = 12, 3, 20*impl.Unit
	a.Lim.Win = windowOf(1000, [2]int{40, 5}, [2]int{90, 8})
	a.Led = ledgerOf(usedSlot(2, 9, 1, 50), freeSlot(3), usedSlot(0, 21, 7, 80), usedSlot(1, 3, 1, 90), freeSlot(0))
	a.Q = queueOf(5, impl.Req{Id: 8, Tier: 2, Client: 1, Came: 60}, impl.Req{Id: 4, Client: 7, Came: 70, Deadline: 110}, impl.Req{Id: 30, Tier: 1, Came: 95, Try: 1})
	a.Slow = []impl.Codel{evenCodel(), slowCodel(150), dropCodel(210, 1)}
	a.Tries = impl.Bucket{Burst: 4, Rate: 100, Have: 1500, At: 95}
	a.Known = []int{3, 4, 5, 8, 9, 20, 21, 30}
	return a
}

func copyAdm(a impl.Adm) impl.Adm {
	a.Lim.Win = copyWindow(a.Lim.Win)
	a.Led = copyLedger(a.Led)
	a.Q = copyQueue(a.Q)
	a.Slow = slices.Clone(a.Slow)
	a.Known = slices.Clone(a.Known)
	return a
}

// admWith is a copy of a machine in which some things are changed.
func admWith(a impl.Adm, change func(*impl.Adm)) impl.Adm {
	a = copyAdm(a)
	change(&a)
	return a
}

func busyWith(change func(*impl.Adm)) impl.Adm { return admWith(busyAdm(), change) }

// sameAdm takes a list without elements and nil as the same.
func sameAdm(a impl.Adm, b impl.Adm) bool {
	same := a.Cfg == b.Cfg && a.Now == b.Now && sameLim(a.Lim, b.Lim) && sameLedger(a.Led, b.Led) && sameQueue(a.Q, b.Q)
	return same && slices.Equal(a.Slow, b.Slow) && a.Tries == b.Tries && slices.Equal(a.Known, b.Known)
}

// knowing makes just those known that wait or fly, as far as a number may be known.
func knowing(a impl.Adm) impl.Adm {
	a = copyAdm(a)
	a.Known = nil
	for _, r := range a.Q.Reqs {
		a.Known = append(a.Known, r.Id)
	}
	for _, s := range a.Led.Slots {
		if s.Used {
			a.Known = append(a.Known, s.Req)
		}
	}
	a.Known = slices.DeleteFunc(a.Known, func(id int) bool { return id < 1 || id > impl.MaxId })
	slices.Sort(a.Known)
	a.Known = slices.Compact(a.Known)
	return a
}

// idsFrom are so many numbers of requests in a row.
func idsFrom(first int, count int) []int {
	var ids []int
	for i := range count {
		ids = append(ids, first+i)
	}
	return ids
}

func TestAdmConstants(t *testing.T) {
	if impl.MaxKnown != 2000 {
		t.Error("MaxKnown isn't what the document says")
	}
}

// cfgEdge are the ends of one number of a configuration: those that are still right, and those that aren't any more.
type cfgEdge struct {
	field        string
	way          func(*impl.Cfg) *int
	right, wrong []int
}

// cfgEdges are held against plainCfg, whose Min is 2, Max 20 and Start 10.
func cfgEdges() []cfgEdge {
	return []cfgEdge{
		{"Kind", func(c *impl.Cfg) *int { return &c.Lim.Kind }, []int{impl.LmSteps, impl.LmSlope}, []int{-1, 0, 3}},
		{"Min", func(c *impl.Cfg) *int { return &c.Lim.Min }, []int{1, 2, 9, 10}, []int{-1, 0, 11, 20, 21}},
		{"Max", func(c *impl.Cfg) *int { return &c.Lim.Max }, []int{10, 11, impl.MaxLimit - 1, impl.MaxLimit}, []int{-1, 0, 1, 9, impl.MaxLimit + 1}},
		{"Span", func(c *impl.Cfg) *int { return &c.Lim.Span }, []int{1, 2, impl.MaxSpan - 1, impl.MaxSpan}, []int{-1, 0, impl.MaxSpan + 1}},
		{"Slow", func(c *impl.Cfg) *int { return &c.Lim.Slow }, []int{0, 1, impl.MaxLat - 1, impl.MaxLat}, []int{-1, impl.MaxLat + 1}},
		{"Start", func(c *impl.Cfg) *int { return &c.Start }, []int{2, 3, 19, 20}, []int{-1, 0, 1, 21}},
		{"Cap", func(c *impl.Cfg) *int { return &c.Cap }, []int{1, 2, impl.MaxSlots - 1, impl.MaxSlots}, []int{-1, 0, impl.MaxSlots + 1}},
		{"Tiers", func(c *impl.Cfg) *int { return &c.Tiers }, []int{1, 2, impl.MaxTiers - 1, impl.MaxTiers}, []int{-1, 0, impl.MaxTiers + 1}},
		{"Room", func(c *impl.Cfg) *int { return &c.Room }, []int{0, 1, impl.MaxRoom - 1, impl.MaxRoom}, []int{-1, impl.MaxRoom + 1}},
		{"Wait", func(c *impl.Cfg) *int { return &c.Wait }, []int{0, 1, lastTime - 1, lastTime}, []int{-1, lastTime + 1}},
		{"Target", func(c *impl.Cfg) *int { return &c.Target }, []int{0, 1, impl.MaxSpan - 1, impl.MaxSpan}, []int{-1, impl.MaxSpan + 1}},
		{"Every", func(c *impl.Cfg) *int { return &c.Every }, []int{1, 2, impl.MaxSpan - 1, impl.MaxSpan}, []int{-1, 0, impl.MaxSpan + 1}},
		{"Burst", func(c *impl.Cfg) *int { return &c.Burst }, []int{0, 1, impl.MaxBurst - 1, impl.MaxBurst}, []int{-1, impl.MaxBurst + 1, impl.MaxInt/perToken + 1}},
		{"Rate", func(c *impl.Cfg) *int { return &c.Rate }, []int{0, 1, impl.MaxRate - 1, impl.MaxRate}, []int{-1, impl.MaxRate + 1}},
	}
}

// farInts are the ends of int, which are right in no field.
func farInts() []int { return []int{minInt, minInt + 1, impl.MaxInt - 1, impl.MaxInt} }

// fullCfgs are configurations at the edges of what CfgOk allows.
func fullCfgs() map[string]impl.Cfg {
	right := map[string]impl.Cfg{
		"plain": plainCfg(),
		"Min at Max": plainWith(func(c *impl.Cfg) {
			c.Lim.Min, c.Start = 20, 20
		}),
		"Min, Max and Start 1": plainWith(func(c *impl.Cfg) {
			c.Lim.Min, c.Lim.Max, c.Start = 1, 1, 1
		}),
		"Min, Max and Start at the end": plainWith(func(c *impl.Cfg) {
			c.Lim.Min, c.Lim.Max, c.Start = impl.MaxLimit, impl.MaxLimit, impl.MaxLimit
		}),
		"all least": {Lim: impl.LimCfg{Kind: impl.LmSteps, Min: 1, Max: 1, Span: 1}, Start: 1, Cap: 1, Tiers: 1, Every: 1},
		"all greatest": {
			Lim:   impl.LimCfg{Kind: impl.LmSlope, Min: impl.MaxLimit, Max: impl.MaxLimit, Span: impl.MaxSpan, Slow: impl.MaxLat},
			Start: impl.MaxLimit, Cap: impl.MaxSlots, Tiers: impl.MaxTiers, Room: impl.MaxRoom, Wait: lastTime,
			Target: impl.MaxSpan, Every: impl.MaxSpan, Burst: impl.MaxBurst, Rate: impl.MaxRate,
		},
		"a target above every, and a cap above the limit": plainWith(func(c *impl.Cfg) { c.Target, c.Every, c.Cap = 200, 100, 60 }),
	}
	for _, e := range cfgEdges() {
		for _, n := range e.right {
			right[fmt.Sprintf("%s %d", e.field, n)] = plainWith(func(c *impl.Cfg) { *e.way(c) = n })
		}
	}
	return right
}

// badCfgs are configurations of which CfgOk is false, each but a few by one thing.
func badCfgs() map[string]impl.Cfg {
	wrong := map[string]impl.Cfg{
		"nothing":                         {},
		"Min above Max":                   plainWith(func(c *impl.Cfg) { c.Lim.Min, c.Start = 21, 20 }),
		"Min above Max, Start with it":    plainWith(func(c *impl.Cfg) { c.Lim.Min, c.Start = 21, 21 }),
		"Start one below Min, both high":  plainWith(func(c *impl.Cfg) { c.Lim.Min, c.Start = 20, 19 }),
		"Start one above Max, Min at Max": plainWith(func(c *impl.Cfg) { c.Lim.Min, c.Start = 20, 21 }),
		"Start 0, and Min 1":              plainWith(func(c *impl.Cfg) { c.Lim.Min, c.Start = 1, 0 }),
		"Start and Max above the end":     plainWith(func(c *impl.Cfg) { c.Lim.Max, c.Start = impl.MaxLimit+1, impl.MaxLimit+1 }),
	}
	for _, e := range cfgEdges() {
		for _, n := range append(farInts(), e.wrong...) {
			wrong[fmt.Sprintf("%s %d", e.field, n)] = plainWith(func(c *impl.Cfg) { *e.way(c) = n })
		}
	}
	for name, l := range wrongCfgs() {
		wrong["the limit: "+name] = plainWith(func(c *impl.Cfg) { c.Lim = l })
	}
	for _, n := range append(farInts(), -1, 0) {
		var c impl.Cfg
		for _, e := range cfgEdges() {
			*e.way(&c) = n
		}
		wrong[fmt.Sprintf("all %d", n)] = c
	}
	return wrong
}

func TestCfgOk(t *testing.T) {
	for name, c := range fullCfgs() {
		if !impl.CfgOk(c) {
			t.Errorf("%s: CfgOk says false", name)
		}
	}
	for name, c := range badCfgs() {
		if impl.CfgOk(c) {
			t.Errorf("%s: CfgOk says true", name)
		}
	}
}

// wantCfgOk and the other functions that begin so say what the document says, in the plainest way.
func wantCfgOk(c impl.Cfg) bool {
	right := within(c.Lim.Kind, 1, 2) && within(c.Lim.Min, 1, c.Lim.Max) && within(c.Lim.Max, 1, 1000) && within(c.Start, c.Lim.Min, c.Lim.Max)
	right = right && within(c.Lim.Span, 1, 100000) && within(c.Lim.Slow, 0, 1000000)
	right = right && within(c.Cap, 1, 60) && within(c.Tiers, 1, 4) && within(c.Room, 0, 50) && within(c.Wait, 0, 1000000000)
	return right && within(c.Target, 0, 100000) && within(c.Every, 1, 100000) && within(c.Burst, 0, 1000) && within(c.Rate, 0, 1000000)
}

func wantNew(c impl.Cfg) (impl.Adm, bool) {
	if !wantCfgOk(c) {
		return impl.Adm{}, false
	}
	return newAdm(c), true
}

func checkNew(t *testing.T, name string, c impl.Cfg) {
	t.Helper()
	got, ok := impl.AdmNew(c)
	want, right := wantNew(c)
	if ok != right || !sameAdm(got, want) {
		t.Errorf("%s: AdmNew(%+v) = %+v, %v, want %+v, %v", name, c, got, ok, want, right)
	}
	if impl.CfgOk(c) != right || impl.AdmOk(got) != right {
		t.Errorf("%s: of %+v CfgOk says %v, and AdmOk of what is new %v, want %v", name, c, impl.CfgOk(c), impl.AdmOk(got), right)
	}
}

// Every number of a configuration at all its edges, beside all edges of every other one.
func TestConfigurationsAtAllEdges(t *testing.T) {
	for i, one := range cfgEdges() {
		for _, other := range cfgEdges()[i:] {
			for _, n := range slices.Concat(one.right, one.wrong, farInts()) {
				for _, m := range slices.Concat(other.right, other.wrong, farInts()) {
					checkNew(t, fmt.Sprintf("%s %d, %s %d", one.field, n, other.field, m), plainWith(func(c *impl.Cfg) {
						*one.way(c) = n
						*other.way(c) = m
					}))
				}
			}
		}
	}
}

func someCfg(r *rand.Rand) impl.Cfg {
	c := impl.Cfg{Lim: impl.LimCfg{Kind: 1 + r.Intn(2), Span: someNumber(r, 1, impl.MaxSpan), Slow: someNumber(r, 0, impl.MaxLat)}}
	c.Lim.Min = someNumber(r, 1, impl.MaxLimit)
	c.Lim.Max = someNumber(r, c.Lim.Min, impl.MaxLimit)
	c.Start = someNumber(r, c.Lim.Min, c.Lim.Max)
	c.Cap, c.Tiers, c.Room = someNumber(r, 1, impl.MaxSlots), 1+r.Intn(impl.MaxTiers), someNumber(r, 0, impl.MaxRoom)
	c.Wait, c.Target, c.Every = someNumber(r, 0, lastTime), someNumber(r, 0, impl.MaxSpan), someNumber(r, 1, impl.MaxSpan)
	c.Burst, c.Rate = someNumber(r, 0, impl.MaxBurst), someNumber(r, 0, impl.MaxRate)
	return c
}

// P10: configurations from all over their ranges; half of them have an edge of a field in one place, right or wrong.
func TestConfigurationsEverywhere(t *testing.T) {
	r := rand.New(rand.NewSource(91))
	right, wrong := 0, 0
	for range 20000 {
		c := someCfg(r)
		if e := cfgEdges()[r.Intn(len(cfgEdges()))]; r.Intn(2) == 0 {
			edges := slices.Concat(e.right, e.wrong, farInts())
			*e.way(&c) = edges[r.Intn(len(edges))]
		}
		checkNew(t, "somewhere", c)
		if wantCfgOk(c) {
			right++
		} else {
			wrong++
		}
	}
	if right < 10000 || wrong < 4000 {
		t.Errorf("the test met %d right and %d wrong configurations", right, wrong)
	}
}

func TestAdmNew(t *testing.T) {
	for name, c := range fullCfgs() {
		checkNew(t, name, c)
		if a, ok := impl.AdmNew(c); !ok || a.Now != 0 || len(a.Slow) != c.Tiers || len(a.Known) != 0 || len(a.Led.Slots) != 0 || len(a.Q.Reqs) != 0 {
			t.Errorf("%s: AdmNew tells %+v, %v", name, a, ok)
		}
	}
	for name, c := range badCfgs() {
		checkNew(t, name, c)
		if a, ok := impl.AdmNew(c); ok || !sameAdm(a, impl.Adm{}) {
			t.Errorf("%s: AdmNew tells %+v, %v, want nothing and false", name, a, ok)
		}
	}
}

// Each part of a new machine is what the part's own new one is.
func TestNewMachinesHaveNewParts(t *testing.T) {
	for name, c := range fullCfgs() {
		a, _ := impl.AdmNew(c)
		lim, limOk := impl.LimNew(c.Lim, c.Start)
		queue, queueOk := impl.QueueNew(c.Room)
		codel, codelOk := impl.CodelNew(c.Target, c.Every)
		tries, triesOk := impl.BucketNew(c.Burst, c.Rate)
		if !limOk || !queueOk || !codelOk || !triesOk {
			t.Fatalf("%s: a part says false", name)
		}
		want := impl.Adm{Cfg: c, Lim: lim, Q: queue, Slow: slices.Repeat([]impl.Codel{codel}, c.Tiers), Tries: tries}
		if !sameAdm(a, want) {
			t.Errorf("%s: AdmNew tells %+v, want %+v", name, a, want)
		}
		if impl.Room(a) != c.Start || len(impl.Clients(a.Led)) != 0 || impl.Knows(a, 1) || impl.Knows(a, 0) {
			t.Errorf("%s: somebody flies or is known in a new machine", name)
		}
	}
}

// admRule is one thing that must hold of a machine. It may be asked of any.
type admRule struct {
	name  string
	holds func(impl.Adm) bool
}

func allSlots(a impl.Adm, holds func(impl.Slot) bool) bool {
	return !slices.ContainsFunc(a.Led.Slots, func(s impl.Slot) bool { return s.Used && !holds(s) })
}

func allReqs(a impl.Adm, holds func(impl.Req) bool) bool {
	return !slices.ContainsFunc(a.Q.Reqs, func(r impl.Req) bool { return !holds(r) })
}

func wantKnows(a impl.Adm, id int) bool {
	for _, known := range a.Known {
		if known == id {
			return true
		}
	}
	return false
}

func wantSlow(a impl.Adm) bool {
	for _, d := range a.Slow {
		if !wantCodelOk(d) || d.Target != a.Cfg.Target || d.Every != a.Cfg.Every {
			return false
		}
	}
	return len(a.Slow) == a.Cfg.Tiers
}

func wantKnown(a impl.Adm) bool {
	for i, id := range a.Known {
		if !within(id, 1, 1000000) || i > 0 && id <= a.Known[i-1] {
			return false
		}
	}
	return len(a.Known) <= 2000
}

func wantCap(a impl.Adm) bool {
	flying := map[int]int{}
	for _, s := range a.Led.Slots {
		if s.Used {
			flying[s.Client]++
		}
		if s.Used && flying[s.Client] > a.Cfg.Cap {
			return false
		}
	}
	return true
}

func wantNoneDoesBoth(a impl.Adm) bool {
	return allReqs(a, func(r impl.Req) bool {
		return allSlots(a, func(s impl.Slot) bool { return s.Req != r.Id })
	})
}

// admRules are the words of AdmOk, one by one.
func admRules() []admRule {
	return []admRule{
		{"cfg", func(a impl.Adm) bool { return wantCfgOk(a.Cfg) }},
		{"now", func(a impl.Adm) bool { return within(a.Now, 0, 1000000000) }},
		{"lim", func(a impl.Adm) bool { return impl.LimOk(a.Lim) }},
		{"the lim's cfg", func(a impl.Adm) bool { return a.Lim.Cfg == a.Cfg.Lim }},
		{"ledger", func(a impl.Adm) bool { return wantLedgerOk(a.Led) }},
		{"queue", func(a impl.Adm) bool { return wantQueueOk(a.Q) }},
		{"the queue's room", func(a impl.Adm) bool { return a.Q.Room == a.Cfg.Room }},
		{"codels", wantSlow},
		{"bucket", func(a impl.Adm) bool { return wantBucketOk(a.Tries) }},
		{"the bucket's burst", func(a impl.Adm) bool { return a.Tries.Burst == a.Cfg.Burst }},
		{"the bucket's rate", func(a impl.Adm) bool { return a.Tries.Rate == a.Cfg.Rate }},
		{"known", wantKnown},
		{"tier", func(a impl.Adm) bool { return allReqs(a, func(r impl.Req) bool { return r.Tier < a.Cfg.Tiers }) }},
		{"waits and isn't known", func(a impl.Adm) bool { return allReqs(a, func(r impl.Req) bool { return wantKnows(a, r.Id) }) }},
		{"flies and isn't known", func(a impl.Adm) bool { return allSlots(a, func(s impl.Slot) bool { return wantKnows(a, s.Req) }) }},
		{"does both", wantNoneDoesBoth},
		{"cap", wantCap},
		{"came", func(a impl.Adm) bool { return allReqs(a, func(r impl.Req) bool { return r.Came <= a.Now }) }},
		{"since", func(a impl.Adm) bool { return allSlots(a, func(s impl.Slot) bool { return s.Since <= a.Now }) }},
		{"at", func(a impl.Adm) bool { return a.Tries.At <= a.Now }},
	}
}

// brokenRules are the names of the rules that don't hold.
func brokenRules(a impl.Adm) []string {
	var broken []string
	for _, rule := range admRules() {
		if !rule.holds(a) {
			broken = append(broken, rule.name)
		}
	}
	return broken
}

func wantAdmOk(a impl.Adm) bool { return len(brokenRules(a)) == 0 }

// crowd is a machine in which as many fly as there are slots, and as many wait as there is room for.
func crowd() impl.Adm {
	a := newAdm(plainWith(func(c *impl.Cfg) { c.Room, c.Cap, c.Tiers = impl.MaxRoom, 12, 4 }))
	a.Now = 1000
	a.Led = busyLedger(impl.MaxSlots)
	a.Q = longQueue(impl.MaxRoom, impl.MaxRoom)
	for i := range a.Q.Reqs {
		a.Q.Reqs[i].Id += 100
	}
	return knowing(a)
}

// flyOf lets so many fly of one client, each behind a free slot.
func flyOf(a impl.Adm, client int, count int) impl.Adm {
	a = copyAdm(a)
	a.Led = impl.Ledger{}
	for i := range count {
		a.Led.Slots = append(a.Led.Slots, freeSlot(i), usedSlot(0, 100+i, client, 0))
	}
	return knowing(a)
}

// rightAdms are machines at the edges of what AdmOk allows.
func rightAdms() map[string]impl.Adm {
	right := map[string]impl.Adm{
		"new":              newAdm(plainCfg()),
		"busy":             busyAdm(),
		"crowd":            crowd(),
		"crowd, one waits": admWith(crowd(), func(a *impl.Adm) { a.Q.Reqs = a.Q.Reqs[49:] }),
		"all just now":     busyWith(func(a *impl.Adm) { a.Now, a.Q.Reqs[2].Came, a.Led.Slots[3].Since, a.Tries.At = 99, 99, 99, 99 }),
		"all at the end": busyWith(func(a *impl.Adm) {
			a.Now, a.Q.Reqs[2].Came, a.Led.Slots[3].Since, a.Tries.At = lastTime, lastTime, lastTime, lastTime
		}),
		"now at the end":    busyWith(func(a *impl.Adm) { a.Now = lastTime }),
		"came just now":     busyWith(func(a *impl.Adm) { a.Q.Reqs[2].Came = 100 }),
		"all came just now": busyWith(func(a *impl.Adm) { a.Q.Reqs[0].Came, a.Q.Reqs[1].Came, a.Q.Reqs[2].Came = 100, 100, 100 }),
		"flies since now":   busyWith(func(a *impl.Adm) { a.Led.Slots[0].Since = 100 }),
		"the bucket at now": busyWith(func(a *impl.Adm) { a.Tries.At = 100 }),
		"samples and looks ahead of now": busyWith(func(a *impl.Adm) {
			a.Lim.Win = windowOf(1000, [2]int{lastTime, 5})
			a.Slow[2] = codelWith(dropCodel(lastTime, 7), func(d *impl.Codel) { d.First = lastTime })
		}),
		"at time 0, some wait and fly": busyWith(func(a *impl.Adm) {
			a.Now, a.Tries.At = 0, 0
			for i := range a.Q.Reqs {
				a.Q.Reqs[i].Came = 0
			}
			for i := range a.Led.Slots {
				a.Led.Slots[i].Since = 0
			}
		}),
		"fewer may fly than fly":        busyWith(func(a *impl.Adm) { a.Lim.Limit = 2 }),
		"late ones wait":                busyWith(func(a *impl.Adm) { a.Now = 5000 }),
		"some wait that might fly":      busyWith(func(a *impl.Adm) { a.Led = impl.Ledger{} }),
		"deadlines ahead of came":       busyWith(func(a *impl.Adm) { a.Q.Reqs[0].Deadline = 1 }),
		"the highest tier":              busyWith(func(a *impl.Adm) { a.Q.Reqs[2].Tier = 2 }),
		"known up to the end":           busyWith(func(a *impl.Adm) { a.Known = append(a.Known, impl.MaxId) }),
		"known from the least":          busyWith(func(a *impl.Adm) { a.Known = append([]int{1, 2}, a.Known...) }),
		"the ends wait":                 busyWith(func(a *impl.Adm) { a.Q.Reqs[0].Id, a.Q.Reqs[1].Id = 1, impl.MaxId; *a = knowing(*a) }),
		"the ends fly":                  busyWith(func(a *impl.Adm) { a.Led.Slots[0].Req, a.Led.Slots[2].Req = 1, impl.MaxId; *a = knowing(*a) }),
		"all are known":                 busyWith(func(a *impl.Adm) { a.Known = idsFrom(1, impl.MaxKnown) }),
		"one less than all are known":   busyWith(func(a *impl.Adm) { a.Known = idsFrom(1, impl.MaxKnown-1) }),
		"the last ones are known":       admWith(newAdm(plainCfg()), func(a *impl.Adm) { a.Known = idsFrom(impl.MaxId-impl.MaxKnown+1, impl.MaxKnown) }),
		"nobody is known":               admWith(newAdm(plainCfg()), func(a *impl.Adm) { a.Now, a.Tries.At = 7, 7 }),
		"free slots alone":              busyWith(func(a *impl.Adm) { a.Led = repeated(freeSlot(3), impl.MaxSlots) }),
		"free slots, nobody is known":   admWith(newAdm(plainCfg()), func(a *impl.Adm) { a.Led = ledgerOf(freeSlot(3), freeSlot(impl.MaxGen)) }),
		"a client of the cap":           flyOf(busyAdm(), 1, 3),
		"client 0 of the cap":           flyOf(busyAdm(), 0, 3),
		"client 0 with one":             flyOf(admWith(newAdm(plainCfg()), func(a *impl.Adm) { a.Cfg.Cap = 1 }), 0, 1),
		"two clients of the cap":        admWith(flyOf(busyAdm(), 1, 3), func(a *impl.Adm) { a.Led.Slots[0] = usedSlot(0, 9, 2, 0); *a = knowing(*a) }),
		"the greatest cap":              flyOf(busyWith(func(a *impl.Adm) { a.Cfg.Cap = impl.MaxSlots }), 5, impl.MaxSlots/2),
		"a client that waits much":      busyWith(func(a *impl.Adm) { a.Q.Reqs[0].Client, a.Q.Reqs[1].Client, a.Q.Reqs[2].Client = 1, 1, 1 }),
		"room to the last place":        busyWith(func(a *impl.Adm) { a.Cfg.Room, a.Q.Room = 3, 3 }),
		"room 0, nobody waits":          busyWith(func(a *impl.Adm) { a.Cfg.Room, a.Q = 0, impl.Queue{} }),
		"another start":                 busyWith(func(a *impl.Adm) { a.Cfg.Start = 3 }),
		"lists without elements":        admWith(newAdm(plainCfg()), func(a *impl.Adm) { a.Known, a.Led.Slots, a.Q.Reqs = []int{}, []impl.Slot{}, []impl.Req{} }),
		"an empty bucket":               busyWith(func(a *impl.Adm) { a.Tries.Have = 0 }),
		"no burst":                      busyWith(func(a *impl.Adm) { a.Cfg.Burst, a.Tries.Burst, a.Tries.Have = 0, 0, 0 }),
		"one tier":                      busyWith(func(a *impl.Adm) { a.Cfg.Tiers, a.Slow, a.Q.Reqs = 1, a.Slow[:1], a.Q.Reqs[1:2] }),
		"a slot in its last generation": busyWith(func(a *impl.Adm) { a.Led.Slots[0].Gen = impl.MaxGen }),
	}
	for name, c := range fullCfgs() {
		right["new, "+name] = newAdm(c)
	}
	return right
}

// brokenAdm is a machine that isn't right, and the name of a rule that it breaks.
type brokenAdm struct {
	rule string
	name string
	a    impl.Adm
}

func badNumbers() []brokenAdm {
	change := func(rule string, name string, do func(*impl.Adm)) brokenAdm {
		return brokenAdm{rule, name, busyWith(do)}
	}
	l := []brokenAdm{
		{"cfg", "nothing", impl.Adm{}},
		change("cfg", "start below", func(a *impl.Adm) { a.Cfg.Start = 1 }),
		change("cfg", "start above", func(a *impl.Adm) { a.Cfg.Start = 21 }),
		change("cfg", "a cap above its end", func(a *impl.Adm) { a.Cfg.Cap = impl.MaxSlots + 1 }),
		change("cfg", "cap 0, and nobody flies", func(a *impl.Adm) { a.Cfg.Cap, a.Led = 0, impl.Ledger{} }),
		change("cfg", "no tiers, and nobody waits", func(a *impl.Adm) { a.Cfg.Tiers, a.Slow, a.Q.Reqs = 0, nil, nil }),
		change("cfg", "a tier too many, with its codel", func(a *impl.Adm) { a.Cfg.Tiers, a.Slow = 5, slices.Repeat(a.Slow[:1], 5) }),
		change("cfg", "wait -1", func(a *impl.Adm) { a.Cfg.Wait = -1 }),
		change("cfg", "a wait above its end", func(a *impl.Adm) { a.Cfg.Wait = lastTime + 1 }),
		change("now", "above its end", func(a *impl.Adm) { a.Now = lastTime + 1 }),
		change("now", "the greatest int", func(a *impl.Adm) { a.Now = impl.MaxInt }),
		change("now", "-1", func(a *impl.Adm) { a.Now = -1 }),
		change("now", "the least int", func(a *impl.Adm) { a.Now = minInt }),
	}
	for name, c := range badCfgs() {
		a := busyWith(func(a *impl.Adm) { a.Cfg, a.Lim.Cfg, a.Lim.Win.Span, a.Lim.Limit = c, c.Lim, c.Lim.Span, c.Start })
		a.Q.Room, a.Tries.Burst, a.Tries.Rate = c.Room, c.Burst, c.Rate
		for i := range a.Slow {
			a.Slow[i].Target, a.Slow[i].Every = c.Target, c.Every
		}
		l = append(l, brokenAdm{"cfg", name, a})
	}
	return l
}

func badLims() []brokenAdm {
	var l []brokenAdm
	for name, lim := range wrongLims() {
		a := busyWith(func(a *impl.Adm) { a.Lim, a.Cfg.Lim, a.Cfg.Start = lim, lim.Cfg, lim.Cfg.Min })
		l = append(l, brokenAdm{"lim", name, a})
	}
	// the least and the greatest of what is right, so that a limit fits both
	for name, do := range map[string]func(*impl.Adm){
		"another kind":     func(a *impl.Adm) { a.Lim.Cfg.Kind = impl.LmSlope },
		"another min":      func(a *impl.Adm) { a.Lim.Cfg.Min = 3 },
		"another max":      func(a *impl.Adm) { a.Lim.Cfg.Max = 21 },
		"another span":     func(a *impl.Adm) { a.Lim.Cfg.Span, a.Lim.Win.Span = 1001, 1001 },
		"another slow":     func(a *impl.Adm) { a.Lim.Cfg.Slow = 49 },
		"all of it":        func(a *impl.Adm) { a.Lim = limOf(impl.LmSlope, 30) },
		"the cfg's kind":   func(a *impl.Adm) { a.Cfg.Lim.Kind = impl.LmSlope },
		"the cfg's min":    func(a *impl.Adm) { a.Cfg.Lim.Min = 1 },
		"the cfg's max":    func(a *impl.Adm) { a.Cfg.Lim.Max = 19 },
		"the cfg's span":   func(a *impl.Adm) { a.Cfg.Lim.Span = 999 },
		"the cfg's slow":   func(a *impl.Adm) { a.Cfg.Lim.Slow = 51 },
		"the cfg's bounds": func(a *impl.Adm) { a.Cfg.Lim.Min, a.Cfg.Lim.Max, a.Cfg.Start = 13, 20, 14 },
	} {
		l = append(l, brokenAdm{"the lim's cfg", name, busyWith(do)})
	}
	return l
}

func badLedgersAndQueues() []brokenAdm {
	var l []brokenAdm
	roomy := busyWith(func(a *impl.Adm) { a.Cfg.Cap, a.Now = impl.MaxSlots, lastTime })
	for name, led := range wrongLedgers() {
		l = append(l, brokenAdm{"ledger", name, knowing(admWith(roomy, func(a *impl.Adm) { a.Led, a.Q.Reqs = led, nil }))})
	}
	tiered := admWith(roomy, func(a *impl.Adm) { a.Led, a.Cfg.Tiers, a.Slow = impl.Ledger{}, 4, slices.Repeat(a.Slow[:1], 4) })
	for name, q := range wrongQueues() {
		l = append(l, brokenAdm{"queue", name, knowing(admWith(tiered, func(a *impl.Adm) { a.Q, a.Cfg.Room = q, q.Room }))})
	}
	for _, room := range []int{minInt, -1, 0, 2, 3, 4, 6, 7, impl.MaxRoom, impl.MaxRoom + 1, impl.MaxInt} {
		l = append(l,
			brokenAdm{"the queue's room", fmt.Sprintf("it is %d", room), busyWith(func(a *impl.Adm) { a.Q.Room = room })},
			brokenAdm{"the queue's room", fmt.Sprintf("there should be %d", room), busyWith(func(a *impl.Adm) { a.Cfg.Room = room })},
			brokenAdm{"the queue's room", fmt.Sprintf("it is %d, nobody waits", room), busyWith(func(a *impl.Adm) { a.Q = queueOf(room) })},
		)
	}
	return l
}

func badCodels() []brokenAdm {
	var l []brokenAdm
	for name, do := range map[string]func(*impl.Adm){
		"none":                  func(a *impl.Adm) { a.Slow = nil },
		"an empty list":         func(a *impl.Adm) { a.Slow = []impl.Codel{} },
		"one alone":             func(a *impl.Adm) { a.Slow = a.Slow[:1] },
		"one too few":           func(a *impl.Adm) { a.Slow = a.Slow[:2] },
		"one too many":          func(a *impl.Adm) { a.Slow = append(a.Slow, evenCodel()) },
		"far too many":          func(a *impl.Adm) { a.Slow = slices.Repeat(a.Slow, 500) },
		"as many as may be":     func(a *impl.Adm) { a.Slow = slices.Repeat(a.Slow[:1], impl.MaxTiers+1) },
		"a tier more":           func(a *impl.Adm) { a.Cfg.Tiers = 4 },
		"the cfg's target":      func(a *impl.Adm) { a.Cfg.Target = 6 },
		"the cfg's every":       func(a *impl.Adm) { a.Cfg.Every = 99 },
		"all of another target": func(a *impl.Adm) { a.Slow[0].Target, a.Slow[1].Target, a.Slow[2].Target = 4, 4, 4 },
	} {
		l = append(l, brokenAdm{"codels", name, busyWith(do)})
	}
	for place := range 3 {
		for name, do := range map[string]func(*impl.Codel){
			"another target": func(d *impl.Codel) { d.Target = 6 },
			"target 0":       func(d *impl.Codel) { d.Target = 0 },
			"another every":  func(d *impl.Codel) { d.Every = 101 },
			"both exchanged": func(d *impl.Codel) { d.Target, d.Every = d.Every, d.Target },
		} {
			l = append(l, brokenAdm{"codels", fmt.Sprintf("%s at %d", name, place), busyWith(func(a *impl.Adm) { do(&a.Slow[place]) })})
		}
		for name, d := range wrongCodels() {
			l = append(l, brokenAdm{"codels", fmt.Sprintf("%s at %d", name, place), busyWith(func(a *impl.Adm) { a.Slow[place] = d })})
		}
	}
	return l
}

func badBuckets() []brokenAdm {
	var l []brokenAdm
	for name, b := range wrongBuckets() {
		l = append(l, brokenAdm{"bucket", name, busyWith(func(a *impl.Adm) { a.Tries, a.Cfg.Burst, a.Cfg.Rate = b, b.Burst, b.Rate })})
	}
	for _, n := range []int{minInt, -1, 0, 2, 3, 5, impl.MaxBurst, impl.MaxBurst + 1, impl.MaxInt} {
		l = append(l,
			brokenAdm{"the bucket's burst", fmt.Sprintf("it is %d", n), busyWith(func(a *impl.Adm) { a.Tries.Burst = n })},
			brokenAdm{"the bucket's burst", fmt.Sprintf("it should be %d", n), busyWith(func(a *impl.Adm) { a.Cfg.Burst = n })},
			brokenAdm{"the bucket's rate", fmt.Sprintf("it is %d", n), busyWith(func(a *impl.Adm) { a.Tries.Rate = n })},
			brokenAdm{"the bucket's rate", fmt.Sprintf("it should be %d", n), busyWith(func(a *impl.Adm) { a.Cfg.Rate = n })},
		)
	}
	return l
}

func badKnown() []brokenAdm {
	quiet := admWith(newAdm(plainCfg()), func(a *impl.Adm) { a.Now = 100 })
	var l []brokenAdm
	for name, known := range map[string][]int{
		"0 alone":                  {0},
		"0 at the front":           {0, 1, 2},
		"-1":                       {-1},
		"the least int":            {minInt, 5},
		"one above the end":        {impl.MaxId + 1},
		"one above the end behind": {4, impl.MaxId, impl.MaxId + 1},
		"the greatest int":         {5, impl.MaxInt},
		"two alike":                {7, 7},
		"two alike at the front":   {3, 3, 4, 5},
		"two alike at the end":     {3, 4, 5, 5},
		"two alike, the least":     {1, 1},
		"two alike, the greatest":  {impl.MaxId, impl.MaxId},
		"falling":                  {8, 7},
		"falling at the front":     {4, 3, 5, 6},
		"falling at the end":       {3, 4, 6, 5},
		"falling in the midst":     {3, 6, 5, 9},
		"falling all along":        {9, 7, 5, 3},
		"alike apart":              {3, 4, 3},
		"one too many":             idsFrom(1, impl.MaxKnown+1),
		"one too many, the last":   idsFrom(impl.MaxId-impl.MaxKnown, impl.MaxKnown+1),
		"far too many":             idsFrom(1, 50*impl.MaxKnown),
		"far too many, all alike":  slices.Repeat([]int{7}, 50*impl.MaxKnown),
		"the last two fall":        append(idsFrom(1, impl.MaxKnown-1), impl.MaxKnown-2),
	} {
		l = append(l, brokenAdm{"known", name, admWith(quiet, func(a *impl.Adm) { a.Known = known })})
	}
	return append(l,
		brokenAdm{"known", "busy, 0 at the front", busyWith(func(a *impl.Adm) { a.Known = append([]int{0}, a.Known...) })},
		brokenAdm{"known", "busy, two alike", busyWith(func(a *impl.Adm) { a.Known = append(a.Known, 30) })},
		brokenAdm{"known", "busy, one above the end", busyWith(func(a *impl.Adm) { a.Known = append(a.Known, impl.MaxId+1) })},
		brokenAdm{"known", "busy, falling", busyWith(func(a *impl.Adm) { slices.Reverse(a.Known) })},
	)
}

// forget makes one number unknown.
func forget(id int) func(*impl.Adm) {
	return func(a *impl.Adm) { a.Known = slices.DeleteFunc(a.Known, func(n int) bool { return n == id }) }
}

func badTogether() []brokenAdm {
	change := func(rule string, name string, do func(*impl.Adm)) brokenAdm {
		return brokenAdm{rule, name, busyWith(do)}
	}
	return []brokenAdm{
		change("tier", "the first", func(a *impl.Adm) { a.Q.Reqs[0].Tier = 3 }),
		change("tier", "the last", func(a *impl.Adm) { a.Q.Reqs[2].Tier = 3 }),
		change("tier", "a tier less", func(a *impl.Adm) { a.Cfg.Tiers, a.Slow = 2, a.Slow[:2] }),
		change("tier", "one tier", func(a *impl.Adm) { a.Cfg.Tiers, a.Slow, a.Q.Reqs = 1, a.Slow[:1], a.Q.Reqs[2:] }),
		change("waits and isn't known", "the first", forget(8)),
		change("waits and isn't known", "in the midst", forget(4)),
		change("waits and isn't known", "the last", forget(30)),
		change("waits and isn't known", "nobody is", func(a *impl.Adm) { a.Known, a.Led = nil, impl.Ledger{} }),
		change("waits and isn't known", "a neighbour is", func(a *impl.Adm) { a.Q.Reqs[0].Id = 7 }),
		change("waits and isn't known", "below all", func(a *impl.Adm) { a.Q.Reqs[0].Id = 2 }),
		change("waits and isn't known", "above all", func(a *impl.Adm) { a.Q.Reqs[2].Id = 31 }),
		change("flies and isn't known", "the first", forget(9)),
		change("flies and isn't known", "in the midst", forget(21)),
		change("flies and isn't known", "the last", forget(3)),
		change("flies and isn't known", "nobody is", func(a *impl.Adm) { a.Known, a.Q.Reqs = nil, nil }),
		change("flies and isn't known", "a neighbour is", func(a *impl.Adm) { a.Led.Slots[2].Req = 22 }),
		change("flies and isn't known", "below all", func(a *impl.Adm) { a.Led.Slots[0].Req = 1 }),
		change("flies and isn't known", "above all", func(a *impl.Adm) { a.Led.Slots[3].Req = 31 }),
		change("does both", "the first waits", func(a *impl.Adm) { a.Q.Reqs[0].Id = 9 }),
		change("does both", "the last waits", func(a *impl.Adm) { a.Q.Reqs[2].Id = 3 }),
		change("does both", "the first flies", func(a *impl.Adm) { a.Led.Slots[0].Req = 8 }),
		change("does both", "the last flies", func(a *impl.Adm) { a.Led.Slots[3].Req = 30 }),
		{"cap", "one more", flyOf(busyAdm(), 1, 4)},
		{"cap", "client 0 with one more", flyOf(busyAdm(), 0, 4)},
		{"cap", "the last client with one more", flyOf(busyAdm(), impl.MaxClient, 4)},
		{"cap", "many more", flyOf(busyAdm(), 1, impl.MaxSlots/2)},
		change("cap", "one each, and one with two", func(a *impl.Adm) { a.Cfg.Cap = 1 }),
		{"cap", "another client with one more", admWith(crowd(), func(a *impl.Adm) { a.Led.Slots[58].Client = 4 })},
		{"cap", "a cap one lower", admWith(crowd(), func(a *impl.Adm) { a.Cfg.Cap = 11 })},
		change("came", "the last, of one more", func(a *impl.Adm) { a.Q.Reqs[2].Came = 101 }),
		change("came", "all, of one more", func(a *impl.Adm) { a.Q.Reqs[0].Came, a.Q.Reqs[1].Came, a.Q.Reqs[2].Came = 101, 101, 101 }),
		change("came", "at the end of time", func(a *impl.Adm) { a.Q.Reqs[2].Came = lastTime }),
		change("came", "one, at time 0", func(a *impl.Adm) {
			a.Now, a.Led, a.Tries.At, a.Q.Reqs = 0, impl.Ledger{}, 0, []impl.Req{keyed(1, 1, 8)}
		}),
		change("since", "the first, of one more", func(a *impl.Adm) { a.Led.Slots[0].Since = 101 }),
		change("since", "the last, of one more", func(a *impl.Adm) { a.Led.Slots[3].Since = 101 }),
		change("since", "at the end of time", func(a *impl.Adm) { a.Led.Slots[2].Since = lastTime }),
		change("at", "of one more", func(a *impl.Adm) { a.Tries.At = 101 }),
		change("at", "at the end of time", func(a *impl.Adm) { a.Tries.At = lastTime }),
		{"at", "new, of 1", admWith(newAdm(plainCfg()), func(a *impl.Adm) { a.Tries.At = 1 })},
		change("ledger", "a free slot of one that waits", func(a *impl.Adm) { a.Led.Slots[1].Req = 8 }),
		change("ledger", "a free slot of one that flies", func(a *impl.Adm) { a.Led.Slots[1].Req = 9 }),
		change("ledger", "a free slot of one that isn't known", func(a *impl.Adm) { a.Led.Slots[4].Req = 77 }),
		change("ledger", "a free slot with a client", func(a *impl.Adm) { a.Led.Slots[1].Client = 1 }),
	}
}

func brokenAdms() []brokenAdm {
	return slices.Concat(badNumbers(), badLims(), badLedgersAndQueues(), badCodels(), badBuckets(), badKnown(), badTogether())
}

func TestAdmOk(t *testing.T) {
	for name, a := range rightAdms() {
		if !impl.AdmOk(a) {
			t.Errorf("%s: AdmOk says false; broken: %q", name, brokenRules(a))
		}
	}
	for _, b := range brokenAdms() {
		if impl.AdmOk(b.a) {
			t.Errorf("%s, %s: AdmOk says true", b.rule, b.name)
		}
	}
}

// The test's own machines are what their names say, and each rule is broken alone by some.
func TestBrokenMachinesBreakTheirRule(t *testing.T) {
	alone := map[string]int{}
	for _, b := range brokenAdms() {
		broken := brokenRules(b.a)
		if !slices.Contains(broken, b.rule) {
			t.Errorf("%s, %s: broken are %q", b.rule, b.name, broken)
		}
		if len(broken) == 1 {
			alone[b.rule]++
		}
	}
	for _, rule := range admRules() {
		if alone[rule.name] < 2 {
			t.Errorf("%s is broken alone %d times", rule.name, alone[rule.name])
		}
	}
	for name, a := range rightAdms() {
		if !wantAdmOk(a) {
			t.Errorf("%s: broken are %q", name, brokenRules(a))
		}
	}
}

// In a crowd everybody is asked, wherever he stands.
func TestAdmOkLooksAtEverybody(t *testing.T) {
	full := crowd()
	refuse := func(name string, do func(*impl.Adm)) {
		t.Helper()
		if impl.AdmOk(admWith(full, do)) {
			t.Errorf("%s: AdmOk says true", name)
		}
	}
	for place, r := range full.Q.Reqs {
		refuse(fmt.Sprintf("who waits at %d isn't known", place), forget(r.Id))
		refuse(fmt.Sprintf("who waits at %d came one behind now", place), func(a *impl.Adm) {
			for i := place; i < len(a.Q.Reqs); i++ {
				a.Q.Reqs[i].Came = 1001
			}
		})
		refuse(fmt.Sprintf("who waits at %d is of a tier too high", place), func(a *impl.Adm) {
			a.Cfg.Tiers, a.Slow = 2, a.Slow[:2]
			for i := range a.Q.Reqs {
				a.Q.Reqs[i].Tier = i % 2
			}
			a.Q.Reqs[place].Tier = 2
		})
	}
	for place, s := range full.Led.Slots {
		refuse(fmt.Sprintf("who flies at %d isn't known", place), forget(s.Req))
		refuse(fmt.Sprintf("who flies at %d does so since one behind now", place), func(a *impl.Adm) { a.Led.Slots[place].Since = 1001 })
		if s.Client != 0 {
			refuse(fmt.Sprintf("who flies at %d is one too many of client 0", place), func(a *impl.Adm) { a.Led.Slots[place].Client = 0 })
		}
	}
}

func TestAdmOkLooksAtEveryPairOfThoseThatWaitAndFly(t *testing.T) {
	full := crowd()
	for waits := range full.Q.Reqs {
		for flies := range full.Led.Slots {
			a := admWith(full, func(a *impl.Adm) { a.Q.Reqs[waits].Id = a.Led.Slots[flies].Req })
			if impl.AdmOk(a) {
				t.Errorf("one waits at %d and flies at %d: AdmOk says true", waits, flies)
			}
			a.Led.Slots[flies] = freeSlot(5)
			if !impl.AdmOk(a) {
				t.Errorf("one waits at %d and flew at %d: AdmOk says false", waits, flies)
			}
		}
	}
}

func TestAdmOkLooksAtEveryKnownNumber(t *testing.T) {
	full := admWith(newAdm(plainCfg()), func(a *impl.Adm) {
		for i := range impl.MaxKnown {
			a.Known = append(a.Known, 3*i+3)
		}
	})
	if !impl.AdmOk(full) {
		t.Fatal("AdmOk says false")
	}
	for place, id := range full.Known {
		for _, n := range []int{minInt, -1, 0, id - 4, id - 3, id - 2, id, id + 2, id + 3, id + 4, impl.MaxId, impl.MaxId + 1, impl.MaxInt} {
			a := admWith(full, func(a *impl.Adm) { a.Known[place] = n })
			if got := impl.AdmOk(a); got != wantKnown(a) {
				t.Errorf("%d at %d is known, which was %d: AdmOk says %v", n, place, id, got)
			}
		}
	}
}

// Tiers and caps of every size, just reached and just passed.
func TestTiersAndCapsAtEverySize(t *testing.T) {
	for tiers := 1; tiers <= impl.MaxTiers; tiers++ {
		for tier := range impl.MaxTiers {
			a := newAdm(plainWith(func(c *impl.Cfg) { c.Tiers = tiers }))
			a.Q.Reqs, a.Known = []impl.Req{keyed(tier, 0, 7)}, []int{7}
			if got := impl.AdmOk(a); got != (tier < tiers) {
				t.Errorf("one of tier %d waits, %d tiers: AdmOk says %v", tier, tiers, got)
			}
		}
	}
	for most := 1; most <= impl.MaxSlots; most++ {
		for flying := range impl.MaxSlots + 1 {
			a := newAdm(plainWith(func(c *impl.Cfg) { c.Cap = most }))
			a.Led, a.Known = busyLedger(flying), idsFrom(1, flying)
			for i := range a.Led.Slots {
				a.Led.Slots[i].Client, a.Led.Slots[i].Since = 9, 0
			}
			if got := impl.AdmOk(a); got != (flying <= most) {
				t.Errorf("%d of a client fly, the cap is %d: AdmOk says %v", flying, most, got)
			}
		}
	}
}

// Free slots count for no client, whatever the cap.
func TestFreeSlotsFlyForNobody(t *testing.T) {
	a := newAdm(plainWith(func(c *impl.Cfg) { c.Cap = 1 }))
	a.Led, a.Known = repeated(freeSlot(3), impl.MaxSlots), []int{7}
	for place := range a.Led.Slots {
		one := admWith(a, func(a *impl.Adm) { a.Led.Slots[place] = usedSlot(3, 7, 0, 0) })
		if !impl.AdmOk(a) || !impl.AdmOk(one) {
			t.Errorf("one of client 0 flies at %d: AdmOk says false", place)
		}
		if impl.Room(a) != 10 || impl.Room(one) != 9 || len(impl.Clients(a.Led)) != 0 || !slices.Equal(impl.Clients(one.Led), []int{0}) {
			t.Errorf("one of client 0 flies at %d: Room or Clients count free slots", place)
		}
	}
}

func TestClients(t *testing.T) {
	for _, c := range []struct {
		name string
		l    impl.Ledger
		want []int
	}{
		{"no slots", impl.Ledger{}, nil},
		{"an empty list", impl.Ledger{Slots: []impl.Slot{}}, nil},
		{"one free", ledgerOf(freeSlot(0)), nil},
		{"free ones alone", repeated(freeSlot(7), impl.MaxSlots), nil},
		{"one used", ledgerOf(usedSlot(0, 7, 3, 40)), []int{3}},
		{"of client 0", ledgerOf(usedSlot(0, 7, 0, 40)), []int{0}},
		{"mixed", busyAdm().Led, []int{1, 7, 1}},
		{"free ones at both ends", ledgerOf(freeSlot(1), usedSlot(0, 7, 5, 40), freeSlot(1), usedSlot(0, 8, 2, 40), freeSlot(1)), []int{5, 2}},
		{"one client twice", ledgerOf(usedSlot(0, 7, 5, 40), usedSlot(0, 8, 5, 40)), []int{5, 5}},
		{"one client twice, apart", ledgerOf(usedSlot(0, 7, 5, 40), usedSlot(0, 8, 2, 40), usedSlot(0, 9, 5, 40)), []int{5, 2, 5}},
		{"falling", ledgerOf(usedSlot(0, 7, 9, 40), usedSlot(0, 8, 8, 40), usedSlot(0, 9, 7, 40)), []int{9, 8, 7}},
		{"the ends of clients", ledgerOf(usedSlot(0, 7, impl.MaxClient, 40), usedSlot(0, 8, 0, 40)), []int{impl.MaxClient, 0}},
		{"wrong: the same request twice", ledgerOf(usedSlot(0, 7, 5, 40), usedSlot(0, 7, 4, 40)), []int{5, 4}},
		{"wrong: no clients", ledgerOf(usedSlot(0, 7, -1, 40), usedSlot(0, 8, impl.MaxClient+1, 40)), []int{-1, impl.MaxClient + 1}},
		{"wrong: free ones with clients", ledgerOf(impl.Slot{Client: 5}, usedSlot(0, 8, 4, 40), impl.Slot{Client: -1}), []int{4}},
		{"the ends of int", ledgerOf(usedSlot(minInt, minInt, minInt, minInt), usedSlot(0, 0, impl.MaxInt, 0)), []int{minInt, impl.MaxInt}},
		{"one too many", repeated(usedSlot(0, 7, 6, 40), impl.MaxSlots+1), slices.Repeat([]int{6}, impl.MaxSlots+1)},
	} {
		if got := impl.Clients(c.l); !slices.Equal(got, c.want) {
			t.Errorf("%s: Clients = %v, want %v", c.name, got, c.want)
		}
	}
}

func TestKnows(t *testing.T) {
	five := []int{3, 5, 6, 9, 20}
	for _, c := range []struct {
		name  string
		known []int
		id    int
		want  bool
	}{
		{"none", nil, 0, false},
		{"none", nil, 7, false},
		{"an empty list", []int{}, 7, false},
		{"the only one", []int{7}, 7, true},
		{"below the only one", []int{7}, 6, false},
		{"above the only one", []int{7}, 8, false},
		{"the first", five, 3, true},
		{"the second", five, 5, true},
		{"in the midst", five, 6, true},
		{"the last but one", five, 9, true},
		{"the last", five, 20, true},
		{"between two", five, 4, false},
		{"between two", five, 7, false},
		{"between the last two", five, 19, false},
		{"just below all", five, 2, false},
		{"just above all", five, 21, false},
		{"0", five, 0, false},
		{"-1", five, -1, false},
		{"the other sign", five, -5, false},
		{"the least int", five, minInt, false},
		{"the greatest int", five, impl.MaxInt, false},
		{"the ends, the least", []int{1, impl.MaxId}, 1, true},
		{"the ends, the greatest", []int{1, impl.MaxId}, impl.MaxId, true},
		{"the ends, above", []int{1, impl.MaxId}, impl.MaxId + 1, false},
		{"as many as may be", idsFrom(2, impl.MaxKnown), 1, false},
		{"as many as may be", idsFrom(2, impl.MaxKnown), 2, true},
		{"as many as may be", idsFrom(2, impl.MaxKnown), impl.MaxKnown + 1, true},
		{"as many as may be", idsFrom(2, impl.MaxKnown), impl.MaxKnown + 2, false},
		// Knows has no condition: what is in Known is in it, in whatever order
		{"falling, the first", []int{9, 7, 5, 3, 1}, 9, true},
		{"falling, the second", []int{9, 7, 5, 3, 1}, 7, true},
		{"falling, in the midst", []int{9, 7, 5, 3, 1}, 5, true},
		{"falling, the last", []int{9, 7, 5, 3, 1}, 1, true},
		{"falling, none", []int{9, 7, 5, 3, 1}, 4, false},
		{"mixed", []int{5, 1, 9, 2}, 2, true},
		{"two alike", []int{4, 4}, 4, true},
		{"0 is in it", []int{0, 4}, 0, true},
		{"the ends of int are in it", []int{minInt, 4, impl.MaxInt}, minInt, true},
		{"the ends of int are in it", []int{minInt, 4, impl.MaxInt}, impl.MaxInt, true},
		{"one too many, the last", idsFrom(1, impl.MaxKnown+1), impl.MaxKnown + 1, true},
	} {
		a := busyWith(func(a *impl.Adm) { a.Known = c.known })
		if got := impl.Knows(a, c.id); got != c.want {
			t.Errorf("%s: Knows %d = %v, want %v", c.name, c.id, got, c.want)
		}
		if got := impl.Knows(impl.Adm{Known: c.known}, c.id); got != c.want {
			t.Errorf("%s: in a machine that has nothing else Knows %d = %v, want %v", c.name, c.id, got, c.want)
		}
	}
}

// Who waits or flies isn't known by that alone.
func TestKnowsLooksAtNothingElse(t *testing.T) {
	a := busyWith(func(a *impl.Adm) { a.Known = nil })
	for id := -1; id <= 40; id++ {
		if impl.Knows(a, id) {
			t.Errorf("%d is known", id)
		}
	}
}

func TestRoom(t *testing.T) {
	limited := func(limit int, l impl.Ledger) impl.Adm {
		return busyWith(func(a *impl.Adm) { a.Lim.Limit, a.Led = limit, l })
	}
	three := busyAdm().Led
	all := busyLedger(impl.MaxSlots)
	for _, c := range []struct {
		name string
		a    impl.Adm
		want int
	}{
		{"busy", busyAdm(), 9},
		{"far below those that fly", limited(1, three), 0},
		{"one below them", limited(2, three), 0},
		{"at them", limited(3, three), 0},
		{"one above them", limited(4, three), 1},
		{"two above them", limited(5, three), 2},
		{"nobody flies, 0", limited(0, impl.Ledger{}), 0},
		{"nobody flies, 1", limited(1, impl.Ledger{}), 1},
		{"nobody flies, the greatest limit", limited(impl.MaxLimit, impl.Ledger{}), impl.MaxLimit},
		{"free slots alone", limited(5, repeated(freeSlot(3), impl.MaxSlots)), 5},
		{"all fly, one below", limited(impl.MaxSlots-1, all), 0},
		{"all fly, at it", limited(impl.MaxSlots, all), 0},
		{"all fly, one above", limited(impl.MaxSlots+1, all), 1},
		{"all fly, the greatest limit", limited(impl.MaxLimit, all), impl.MaxLimit - impl.MaxSlots},
		{"all fly, limit 0", limited(0, all), 0},
		{"nothing", impl.Adm{}, 0},
		// Room has no condition either
		{"wrong: limit -1", limited(-1, three), 0},
		{"wrong: limit -1, nobody flies", limited(-1, impl.Ledger{}), 0},
		{"wrong: the least int", limited(minInt, impl.Ledger{}), 0},
		{"wrong: the least int, some fly", limited(minInt, three), 0},
		{"wrong: the least int but 1, some fly", limited(minInt+1, all), 0},
		{"wrong: the greatest int", limited(impl.MaxInt, impl.Ledger{}), impl.MaxInt},
		{"wrong: the greatest int, some fly", limited(impl.MaxInt, three), impl.MaxInt - 3},
		{"wrong: a slot too many flies", limited(70, busyLedger(impl.MaxSlots+1)), 9},
		{"wrong: the same request twice", limited(3, ledgerOf(usedSlot(0, 7, 1, 40), usedSlot(0, 7, 1, 40))), 1},
		{"wrong: free slots of requests", limited(3, ledgerOf(impl.Slot{Req: 7, Client: 1}, usedSlot(0, 7, 1, 40))), 2},
	} {
		if got := impl.Room(c.a); got != c.want {
			t.Errorf("%s: Room = %d, want %d", c.name, got, c.want)
		}
	}
}

// Room hangs on the limit and the slots alone: neither the cap nor the queue nor the rest counts.
func TestRoomLooksAtNothingElse(t *testing.T) {
	for name, a := range rightAdms() {
		bare := impl.Adm{Lim: impl.Lim{Limit: a.Lim.Limit}, Led: a.Led}
		if got, want := impl.Room(a), impl.Room(bare); got != want || got != wantRoom(a) {
			t.Errorf("%s: Room = %d, of the limit and the slots alone it is %d", name, got, want)
		}
	}
}

func wantRoom(a impl.Adm) int {
	flying := len(wantClients(a.Led))
	if a.Lim.Limit <= flying {
		return 0
	}
	return a.Lim.Limit - flying
}

func wantClients(l impl.Ledger) []int {
	clients := []int{}
	for _, s := range l.Slots {
		if s.Used {
			clients = append(clients, s.Client)
		}
	}
	return clients
}

// checkAdm holds all that a machine can be asked against the words.
func checkAdm(t *testing.T, name string, a impl.Adm, ids ...int) {
	t.Helper()
	if got, broken := impl.AdmOk(a), brokenRules(a); got != (len(broken) == 0) {
		t.Errorf("%s: AdmOk(%+v) = %v, broken are %q", name, a, got, broken)
	}
	if got, want := impl.Clients(a.Led), wantClients(a.Led); !slices.Equal(got, want) {
		t.Errorf("%s: Clients(%+v) = %v, want %v", name, a.Led, got, want)
	}
	if got, want := impl.Room(a), wantRoom(a); got != want {
		t.Errorf("%s: Room(%+v) = %d, want %d", name, a, got, want)
	}
	for _, id := range ids {
		if got, want := impl.Knows(a, id), wantKnows(a, id); got != want {
			t.Errorf("%s: Knows(%v, %d) = %v, want %v", name, a.Known, id, got, want)
		}
	}
}

// setter sets one number of a machine, or one truth, which is set by an odd number.
type setter struct {
	name string
	set  func(int)
}

// setters are those of all that stands in a value, lists and all.
func setters(name string, v reflect.Value) []setter {
	var l []setter
	switch v.Kind() {
	case reflect.Struct:
		for i := range v.NumField() {
			l = append(l, setters(name+"."+v.Type().Field(i).Name, v.Field(i))...)
		}
	case reflect.Slice:
		for i := range v.Len() {
			l = append(l, setters(fmt.Sprintf("%s[%d]", name, i), v.Index(i))...)
		}
	case reflect.Int:
		l = append(l, setter{name, func(n int) { v.SetInt(int64(n)) }})
	case reflect.Bool:
		l = append(l, setter{name, func(n int) { v.SetBool(n%2 != 0) }})
	}
	return l
}

func settersOf(a *impl.Adm) []setter { return setters("", reflect.ValueOf(a).Elem()) }

// tellingInts are all numbers at which something may change in a busy machine, with the ends of int.
func tellingInts() []int {
	l := []int{minInt, minInt + 1, -1, impl.MaxInt - 1, impl.MaxInt, 12, 19, 20, 21, 22, 29, 30, 31, 1499, 1500, 1501, 4000, 4001}
	l = append(l, idsFrom(0, 11)...)
	for _, mid := range []int{50, 60, 70, 80, 90, 95, 100, 110, 150, 210, 500, 1000, impl.MaxSpan, impl.MaxLat, lastTime, mostAvg} {
		l = append(l, mid-1, mid, mid+1)
	}
	return l
}

// Every number of a machine, wherever it stands, at every edge, all others right.
func TestEveryNumberOfAMachineAtItsEdges(t *testing.T) {
	base := busyAdm()
	count := len(settersOf(&base))
	if count != 14+1+9+2*2+5*5+1+3*6+3*6+4+8 {
		t.Fatalf("a busy machine has %d numbers and truths", count)
	}
	for place := range count {
		for _, n := range tellingInts() {
			a := busyAdm()
			one := settersOf(&a)[place]
			one.set(n)
			checkAdm(t, fmt.Sprintf("%s is %d", one.name, n), a, n, 8, 9)
		}
	}
}

// Several numbers at once, each at some edge.
func TestSeveralNumbersOfAMachineAtTheirEdges(t *testing.T) {
	r := rand.New(rand.NewSource(92))
	edges := tellingInts()
	right := 0
	for range 30000 {
		a := busyAdm()
		all := settersOf(&a)
		name := ""
		for range 2 + r.Intn(2) {
			one, n := all[r.Intn(len(all))], edges[r.Intn(len(edges))]
			one.set(n)
			name += fmt.Sprintf("%s is %d; ", one.name, n)
		}
		checkAdm(t, name, a, 8)
		if wantAdmOk(a) {
			right++
		}
	}
	if right < 300 {
		t.Errorf("the test met %d right machines", right)
	}
}

// someComers are numbers that rise, mostly few, now and then as many as may be.
func someComers(r *rand.Rand) []int {
	count := r.Intn(1 + r.Intn(200))
	if r.Intn(20) == 0 {
		count = impl.MaxKnown
	}
	step := 1 + r.Intn(impl.MaxId/(count+1))
	var ids []int
	last := 0
	for range count {
		last += 1 + r.Intn(step)
		ids = append(ids, last)
	}
	return ids
}

// someRight is any right machine: of those that have come some wait, some fly, and some have ended.
func someRight(r *rand.Rand) impl.Adm {
	c := someCfg(r)
	if r.Intn(2) == 0 {
		c.Cap = 1 + r.Intn(5)
	}
	a := newAdm(c)
	a.Now = someNumber(r, 0, lastTime)
	a.Lim.Limit, a.Lim.Good, a.Lim.Avg = someNumber(r, c.Lim.Min, c.Lim.Max), someNumber(r, 0, impl.MaxLimit), someNumber(r, 0, mostAvg)
	a.Tries.Have, a.Tries.At = someNumber(r, 0, 1000*c.Burst), someNumber(r, 0, a.Now)
	a.Known = someComers(r)
	ids := slices.Clone(a.Known)
	r.Shuffle(len(ids), func(i int, j int) { ids[i], ids[j] = ids[j], ids[i] })
	waiting := r.Intn(1 + min(len(ids), c.Room))
	a.Q.Reqs = someWaiting(r, a, ids[:waiting])
	a.Led = someFlying(r, a, ids[waiting:])
	for i := range a.Slow {
		d := someCodel(r)
		if d.Target, d.Every = c.Target, c.Every; wantCodelOk(d) {
			a.Slow[i] = d
		}
	}
	return a
}

func someWaiting(r *rand.Rand, a impl.Adm, ids []int) []impl.Req {
	var reqs []impl.Req
	for _, id := range ids {
		one := impl.Req{Id: id, Tier: r.Intn(a.Cfg.Tiers), Client: someNumber(r, 0, impl.MaxClient), Try: r.Intn(impl.MaxTry + 1)}
		one.Deadline, one.Came = someNumber(r, 0, lastTime), someNumber(r, 0, a.Now)
		reqs = append(reqs, one)
	}
	slices.SortStableFunc(reqs, func(x impl.Req, y impl.Req) int { return x.Came - y.Came })
	return reqs
}

func someFlying(r *rand.Rand, a impl.Adm, ids []int) impl.Ledger {
	var l impl.Ledger
	flying := map[int]int{}
	for range r.Intn(impl.MaxSlots + 1) {
		client := someNumber(r, 0, impl.MaxClient)
		s := freeSlot(someNumber(r, 0, impl.MaxGen))
		if len(ids) > 0 && flying[client] < a.Cfg.Cap && r.Intn(4) > 0 {
			s = usedSlot(s.Gen, ids[0], client, someNumber(r, 0, a.Now))
			ids = ids[1:]
			flying[client]++
		}
		l.Slots = append(l.Slots, s)
	}
	return l
}

// spoil does one thing to a machine by which it may be wrong.
func spoil(r *rand.Rand, a *impl.Adm) {
	edges := slices.Concat(farInts(), []int{-1, 0, 1, a.Now, a.Now + 1, a.Cfg.Tiers, a.Cfg.Room, lastTime + 1, impl.MaxId + 1, r.Intn(70)})
	edge := edges[r.Intn(len(edges))]
	all := settersOf(a)
	ways := []func(){
		func() { all[r.Intn(len(all))].set(edge) },
		func() { a.Now = r.Intn(a.Now + 1) },
		func() { a.Now = max(lastTime+1, edge) },
		func() { a.Lim.Limit = edge },
		func() { a.Lim.Cfg.Slow = edge },
		func() { a.Q.Room += 1 - 2*r.Intn(2) },
		func() { a.Slow = append(a.Slow, a.Slow[0]) },
		func() { a.Slow = a.Slow[1:] },
		func() { a.Cfg.Tiers, a.Slow = 1, a.Slow[:1] },
		func() { a.Cfg.Cap = max(1, a.Cfg.Cap/4) },
		func() { a.Cfg.Wait = edge },
		func() { a.Tries.Burst++ },
		func() { a.Tries.Have = edge },
		func() { a.Tries.Rate = edge },
	}
	if count := len(a.Known); count > 0 {
		ways = append(ways, func() { forget(a.Known[r.Intn(count)])(a) }, func() { a.Known[r.Intn(count)] = a.Known[r.Intn(count)] })
	}
	if len(a.Q.Reqs) > 0 && len(a.Led.Slots) > 0 {
		ways = append(ways, func() { a.Q.Reqs[r.Intn(len(a.Q.Reqs))].Id = a.Led.Slots[r.Intn(len(a.Led.Slots))].Req })
	}
	ways[r.Intn(len(ways))]()
}

// P1, P10: machines of every kind, half of them spoilt by one thing.
func TestMachinesEverywhere(t *testing.T) {
	r := rand.New(rand.NewSource(93))
	right := 0
	alone := map[string]int{}
	for round := range 20000 {
		a := someRight(r)
		if round%2 == 0 {
			spoil(r, &a)
		} else if !wantAdmOk(a) {
			t.Fatalf("the test makes a wrong machine: %q", brokenRules(a))
		}
		ids := []int{0, -1, r.Intn(300), impl.MaxInt}
		if len(a.Known) > 0 {
			id := a.Known[r.Intn(len(a.Known))]
			ids = append(ids, a.Known[0], id, id-1, id+1, a.Known[len(a.Known)-1])
		}
		checkAdm(t, "somewhere", a, ids...)
		switch broken := brokenRules(a); len(broken) {
		case 0:
			right++
		case 1:
			alone[broken[0]]++
		}
		if t.Failed() {
			return
		}
	}
	if right < 10000 {
		t.Errorf("the test met %d right machines", right)
	}
	for _, rule := range admRules() {
		if alone[rule.name] < 5 {
			t.Errorf("%s was broken alone %d times", rule.name, alone[rule.name])
		}
	}
}

// moved is a machine whose parts are moved by their own layers, as the document's later chapters do.
type moved struct {
	r    *rand.Rand
	a    impl.Adm
	next int
}

// come lets one come that is known from then on.
func (x *moved) come() {
	x.next += 1 + x.r.Intn(3)
	r := impl.Req{Id: x.next, Tier: x.r.Intn(x.a.Cfg.Tiers), Client: x.r.Intn(4), Came: x.a.Now}
	x.a.Known = append(slices.Clone(x.a.Known), r.Id)
	x.a.Q, _, _ = impl.Offer(x.a.Q, r)
	x.a.Tries, _ = impl.Take(x.a.Tries, x.a.Now)
}

// through lets the first one of the queue fly.
func (x *moved) through() {
	r, ok := impl.First(x.a.Q, impl.Clients(x.a.Led), x.a.Cfg.Cap)
	if !ok || impl.Room(x.a) == 0 {
		return
	}
	if l, _, given := impl.Grant(x.a.Led, r.Id, r.Client, x.a.Now); given {
		x.a.Led = l
		x.a.Q, _, _ = impl.Pull(x.a.Q, r.Id)
	}
}

// back brings one of those that fly back, from which the limit learns.
func (x *moved) back() {
	place := slices.IndexFunc(x.a.Led.Slots, func(s impl.Slot) bool { return s.Used })
	if place < 0 {
		return
	}
	p, _ := impl.PermitOf(x.a.Led, x.a.Led.Slots[place].Req)
	l, s, _ := impl.Release(x.a.Led, p)
	x.a.Led = l
	x.a.Lim = impl.Learn(x.a.Lim, x.a.Now, min(x.a.Now-s.Since, impl.MaxLat), x.r.Intn(4) > 0)
}

// thin looks at one tier.
func (x *moved) thin() {
	tier := x.r.Intn(x.a.Cfg.Tiers)
	var waits []int
	for _, r := range impl.OfTier(x.a.Q, tier) {
		waits = append(waits, x.a.Now-r.Came)
	}
	x.a.Slow = slices.Clone(x.a.Slow)
	x.a.Slow[tier], _ = impl.SeeAll(x.a.Slow[tier], x.a.Now, waits)
}

// P1, as far as this chapter goes: where the parts are moved together the machine is right behind each move; where one of them isn't moved, it isn't.
func TestPartsThatMoveTogether(t *testing.T) {
	waited, flew := 0, 0
	for seed := range 40 {
		x := moved{r: rand.New(rand.NewSource(int64(seed)))}
		c := plainWith(func(c *impl.Cfg) { c.Cap, c.Tiers, c.Room, c.Lim.Kind = 1+seed%3, 1+seed%4, 3+seed%9, 1+seed%2 })
		x.a, _ = impl.AdmNew(c)
		for step := range 300 {
			x.a.Now += x.r.Intn(20)
			switch x.r.Intn(5) {
			case 0, 1:
				x.come()
			case 2:
				x.through()
			case 3:
				x.back()
			case 4:
				x.thin()
			}
			if !impl.AdmOk(x.a) {
				t.Fatalf("run %d, step %d: AdmOk says false; broken: %q", seed, step, brokenRules(x.a))
			}
			waited, flew = waited+len(x.a.Q.Reqs), flew+impl.Flying(x.a.Led)
			x.unmoved(t)
		}
	}
	if waited < 5000 || flew < 5000 {
		t.Errorf("%d waited and %d flew", waited, flew)
	}
}

// unmoved moves one part alone, which makes a machine that isn't right.
func (x *moved) unmoved(t *testing.T) {
	t.Helper()
	refuse := func(name string, a impl.Adm) {
		t.Helper()
		if impl.AdmOk(a) {
			t.Fatalf("%s: AdmOk says true of %+v", name, a)
		}
	}
	a := x.a
	if x.next > 0 {
		a.Q, _, _ = impl.Offer(queueOf(a.Cfg.Room), impl.Req{Id: x.next + 1, Came: a.Now})
		refuse("one waits that didn't come", a)
	}
	for _, r := range x.a.Q.Reqs {
		a = x.a
		a.Led, _, _ = impl.Grant(impl.Ledger{}, r.Id, r.Client, a.Now)
		refuse("one flies that wasn't pulled", a)
	}
	a = x.a
	if a.Tries, _ = impl.Take(a.Tries, a.Now+1); a.Tries.At > a.Now {
		refuse("the bucket is ahead of now", a)
	}
}

// Chapter 1: no argument is changed, and what a call answers hangs on its arguments alone.
func TestMachinesAreLeftAlone(t *testing.T) {
	given := rightAdms()
	for _, b := range brokenAdms() {
		given["wrong: "+b.rule+", "+b.name] = b.a
	}
	for name, g := range given {
		a := withRoomBehind(g)
		whole := wholeLists(a)
		before := copyAdm(a)
		ok, clients, room, knows := impl.AdmOk(a), impl.Clients(a.Led), impl.Room(a), impl.Knows(a, 8)
		impl.CfgOk(a.Cfg)
		impl.AdmNew(a.Cfg)
		impl.AdmOk(busyAdm())
		if !sameAdm(a, before) || !reflect.DeepEqual(wholeLists(a), whole) {
			t.Errorf("%s: a call changed its argument", name)
		}
		if impl.AdmOk(a) != ok || !slices.Equal(impl.Clients(a.Led), clients) || impl.Room(a) != room || impl.Knows(a, 8) != knows {
			t.Errorf("%s: a second call answers something else", name)
		}
		// what is equal is answered alike, wherever it stands
		if impl.AdmOk(before) != ok || impl.AdmOk(copyAdm(g)) != ok {
			t.Errorf("%s: AdmOk says something else of a copy", name)
		}
	}
}

// withRoomBehind copies a machine into lists that have room behind them, into which an append would write.
func withRoomBehind(a impl.Adm) impl.Adm {
	a.Lim.Win.Items = append(slices.Clone(a.Lim.Win.Items), impl.Sample{At: 3, Lat: 3})[:len(a.Lim.Win.Items)]
	a.Led.Slots = append(slices.Clone(a.Led.Slots), usedSlot(3, 3, 3, 3))[:len(a.Led.Slots)]
	a.Q.Reqs = append(slices.Clone(a.Q.Reqs), keyed(3, 3, 3))[:len(a.Q.Reqs)]
	a.Slow = append(slices.Clone(a.Slow), slowCodel(3))[:len(a.Slow)]
	a.Known = append(slices.Clone(a.Known), 3)[:len(a.Known)]
	return a
}

// wholeLists are copies of a machine's lists, with the room behind them.
func wholeLists(a impl.Adm) []any {
	return []any{
		slices.Clone(a.Lim.Win.Items[:cap(a.Lim.Win.Items)]), slices.Clone(a.Led.Slots[:cap(a.Led.Slots)]), slices.Clone(a.Q.Reqs[:cap(a.Q.Reqs)]),
		slices.Clone(a.Slow[:cap(a.Slow)]), slices.Clone(a.Known[:cap(a.Known)]),
	}
}

// withEmptyLists is a copy of a machine with a list without elements wherever it has none.
func withEmptyLists(a impl.Adm) impl.Adm {
	a.Lim.Win.Items = append([]impl.Sample{}, a.Lim.Win.Items...)
	a.Led.Slots = append([]impl.Slot{}, a.Led.Slots...)
	a.Q.Reqs = append([]impl.Req{}, a.Q.Reqs...)
	a.Slow = append([]impl.Codel{}, a.Slow...)
	a.Known = append([]int{}, a.Known...)
	return a
}

// Chapter 1: a list without elements and nil are the same.
func TestEmptyListsOfMachines(t *testing.T) {
	for name, a := range rightAdms() {
		emptied := withEmptyLists(a)
		if !impl.AdmOk(emptied) || impl.Room(emptied) != impl.Room(a) || impl.Knows(emptied, 0) {
			t.Errorf("%s: with empty lists for nil it answers something else", name)
		}
	}
}

// Chapter 1: what is told is new memory: a write into one answer shows neither in another one nor in the argument.
func TestNewMachinesShareNoMemory(t *testing.T) {
	for name, c := range fullCfgs() {
		checkOwnList(t, name, nil, impl.Codel{Target: 77}, func() []impl.Codel {
			a, _ := impl.AdmNew(c)
			return a.Slow
		})
		a, _ := impl.AdmNew(c)
		b, _ := impl.AdmNew(c)
		if a.Slow[0].Count = 9; b.Slow[0].Count != 0 {
			t.Errorf("%s: two new machines share a list", name)
		}
		a.Lim.Win.Items = append(a.Lim.Win.Items, impl.Sample{At: 3, Lat: 3})
		a.Led.Slots = append(a.Led.Slots, usedSlot(3, 3, 3, 3))
		a.Q.Reqs = append(a.Q.Reqs, keyed(3, 3, 3))
		a.Known = append(a.Known, 3)
		if after, _ := impl.AdmNew(c); !sameAdm(after, newAdm(c)) {
			t.Errorf("%s: a third new machine is %+v", name, after)
		}
	}
}

func TestClientsShareNoMemory(t *testing.T) {
	ledgers := rightLedgers()
	for name, l := range wrongLedgers() {
		ledgers["wrong: "+name] = l
	}
	for name, l := range ledgers {
		before := copyLedger(l)
		one, other := impl.Clients(l), impl.Clients(l)
		kept := slices.Clone(other)
		room := one[:cap(one)]
		for i := range room {
			room[i] = 777
		}
		if !sameLedger(l, before) || !slices.Equal(other, kept) {
			t.Errorf("%s: a write into what Clients tells shows elsewhere", name)
		}
	}
}

// Chapter 1: called again and again, and by many at once, a call answers alike.
func TestMachineCallsKeepNothing(t *testing.T) {
	given := []impl.Adm{busyAdm(), newAdm(plainCfg()), crowd(), {}, busyWith(func(a *impl.Adm) { a.Tries.At = 101 })}
	var all sync.WaitGroup
	for range 4 {
		all.Go(func() {
			for round := range 100 {
				for _, a := range given {
					checkAdm(t, "called by many", a, round)
				}
				checkNew(t, "called by many", plainWith(func(c *impl.Cfg) { c.Tiers = round % 6 }))
			}
		})
	}
	all.Wait()
}
