package tests

import (
	"fmt"
	"math/rand"
	"slices"
	"sync"
	"testing"

	"loop.example/g00685/impl"
)

func usedSlot(gen int, req int, client int, since int) impl.Slot {
	return impl.Slot{Gen: gen, Used: true, Req: req, Client: client, Since: since}
}

func freeSlot(gen int) impl.Slot { return impl.Slot{Gen: gen} }

func ledgerOf(slots ...impl.Slot) impl.Ledger { return impl.Ledger{Slots: slots} }

// busyLedger has so many slots, all used, of the requests 1, 2, 3 ..
func busyLedger(count int) impl.Ledger {
	var l impl.Ledger
	for i := range count {
		l.Slots = append(l.Slots, usedSlot(i%3, i+1, i%5, 10*i))
	}
	return l
}

// repeated has so many slots, all the same.
func repeated(s impl.Slot, count int) impl.Ledger {
	return impl.Ledger{Slots: slices.Repeat([]impl.Slot{s}, count)}
}

// ledgerWith is a copy of a ledger in which the slot at one place is another.
func ledgerWith(l impl.Ledger, place int, s impl.Slot) impl.Ledger {
	l = copyLedger(l)
	l.Slots[place] = s
	return l
}

func copyLedger(l impl.Ledger) impl.Ledger { return impl.Ledger{Slots: slices.Clone(l.Slots)} }

// sameLedger takes a list without elements and nil as the same.
func sameLedger(a impl.Ledger, b impl.Ledger) bool { return slices.Equal(a.Slots, b.Slots) }

func rightSlots() map[string]impl.Slot {
	return map[string]impl.Slot{
		"the zero slot":        {},
		"free, gen 1":          freeSlot(1),
		"free, gen MaxGen - 1": freeSlot(impl.MaxGen - 1),
		"free, gen MaxGen":     freeSlot(impl.MaxGen),
		"ordinary":             usedSlot(5, 70, 3, 40),
		"gen 0":                usedSlot(0, 70, 3, 40),
		"gen MaxGen - 1":       usedSlot(impl.MaxGen-1, 70, 3, 40),
		"gen MaxGen":           usedSlot(impl.MaxGen, 70, 3, 40),
		"req 1":                usedSlot(5, 1, 3, 40),
		"req MaxId":            usedSlot(5, impl.MaxId, 3, 40),
		"client 0":             usedSlot(5, 70, 0, 40),
		"client MaxClient":     usedSlot(5, 70, impl.MaxClient, 40),
		"since 0":              usedSlot(5, 70, 3, 0),
		"since MaxTime":        usedSlot(5, 70, 3, impl.MaxTime),
		"all least":            usedSlot(0, 1, 0, 0),
		"all greatest":         usedSlot(impl.MaxGen, impl.MaxId, impl.MaxClient, impl.MaxTime),
	}
}

// wrongSlots are slots of which SlotOk is false, each by one thing.
func wrongSlots() map[string]impl.Slot {
	wrong := map[string]impl.Slot{
		"free, gen -1":       freeSlot(-1),
		"free, gen too high": freeSlot(impl.MaxGen + 1),
		"free, req 1":        {Gen: 5, Req: 1},
		"free, req -1":       {Gen: 5, Req: -1},
		"free, client 1":     {Gen: 5, Client: 1},
		"free, client -1":    {Gen: 5, Client: -1},
		"free, since 1":      {Gen: 5, Since: 1},
		"free, since -1":     {Gen: 5, Since: -1},
		"free, not emptied":  {Gen: 5, Req: 70, Client: 3, Since: 40},
		"used, all zero":     {Used: true},
		"gen -1":             usedSlot(-1, 70, 3, 40),
		"gen too high":       usedSlot(impl.MaxGen+1, 70, 3, 40),
		"req 0":              usedSlot(5, 0, 3, 40),
		"req -1":             usedSlot(5, -1, 3, 40),
		"req too high":       usedSlot(5, impl.MaxId+1, 3, 40),
		"client -1":          usedSlot(5, 70, -1, 40),
		"client too high":    usedSlot(5, 70, impl.MaxClient+1, 40),
		"since -1":           usedSlot(5, 70, 3, -1),
		"since too high":     usedSlot(5, 70, 3, impl.MaxTime+1),
	}
	for _, far := range []int{minInt, impl.MaxInt} {
		wrong[fmt.Sprintf("free, gen %d", far)] = freeSlot(far)
		wrong[fmt.Sprintf("free, req %d", far)] = impl.Slot{Gen: 5, Req: far}
		wrong[fmt.Sprintf("free, client %d", far)] = impl.Slot{Gen: 5, Client: far}
		wrong[fmt.Sprintf("free, since %d", far)] = impl.Slot{Gen: 5, Since: far}
		wrong[fmt.Sprintf("gen %d", far)] = usedSlot(far, 70, 3, 40)
		wrong[fmt.Sprintf("req %d", far)] = usedSlot(5, far, 3, 40)
		wrong[fmt.Sprintf("client %d", far)] = usedSlot(5, 70, far, 40)
		wrong[fmt.Sprintf("since %d", far)] = usedSlot(5, 70, 3, far)
		wrong[fmt.Sprintf("all %d", far)] = usedSlot(far, far, far, far)
	}
	return wrong
}

// rightLedgers are ledgers at the edges of what LedgerOk allows.
func rightLedgers() map[string]impl.Ledger {
	right := map[string]impl.Ledger{
		"no list":                    {},
		"an empty list":              {Slots: []impl.Slot{}},
		"all free, all of req 0":     ledgerOf(freeSlot(0), freeSlot(0), freeSlot(3)),
		"all used":                   ledgerOf(usedSlot(0, 7, 1, 40), usedSlot(2, 8, 1, 40), usedSlot(2, 9, 0, 30)),
		"one in the midst free":      ledgerOf(usedSlot(0, 7, 1, 40), freeSlot(4), usedSlot(2, 9, 0, 30)),
		"neighbouring requests":      ledgerOf(usedSlot(1, 8, 1, 40), usedSlot(1, 7, 1, 40), usedSlot(1, 9, 1, 40)),
		"the ends of requests":       ledgerOf(usedSlot(1, impl.MaxId, 1, 40), usedSlot(1, 1, 1, 40)),
		"the first free one is over": ledgerOf(usedSlot(0, 7, 1, 40), freeSlot(impl.MaxGen), freeSlot(3), usedSlot(2, 9, 0, 30)),
		"all free ones are over":     ledgerOf(usedSlot(0, 7, 1, 40), freeSlot(impl.MaxGen), freeSlot(impl.MaxGen)),
		"used in the last gen":       ledgerOf(usedSlot(impl.MaxGen, 7, 1, 40), usedSlot(impl.MaxGen-1, 8, 1, 40), usedSlot(0, 9, 1, 40)),
		"MaxSlots, all used":         busyLedger(impl.MaxSlots),
		"MaxSlots, all free":         repeated(freeSlot(0), impl.MaxSlots),
		"MaxSlots, all over":         repeated(freeSlot(impl.MaxGen), impl.MaxSlots),
		"MaxSlots, the last is free": ledgerWith(busyLedger(impl.MaxSlots), impl.MaxSlots-1, freeSlot(9)),
		"MaxSlots, the last is over": ledgerWith(busyLedger(impl.MaxSlots), impl.MaxSlots-1, freeSlot(impl.MaxGen)),
		"one less, all used":         busyLedger(impl.MaxSlots - 1),
		"one less, all over":         repeated(freeSlot(impl.MaxGen), impl.MaxSlots-1),
	}
	for name, s := range rightSlots() {
		right["slot: "+name] = ledgerOf(s)
	}
	return right
}

// wrongLedgers are ledgers of which LedgerOk is false, each by one thing.
func wrongLedgers() map[string]impl.Ledger {
	wrong := map[string]impl.Ledger{
		"one too many, all used":   busyLedger(impl.MaxSlots + 1),
		"one too many, all free":   repeated(freeSlot(0), impl.MaxSlots+1),
		"far too many":             repeated(freeSlot(0), 20*impl.MaxSlots),
		"the same side by side":    ledgerOf(usedSlot(1, 7, 1, 40), usedSlot(1, 7, 1, 40)),
		"the same apart":           ledgerOf(usedSlot(1, 7, 1, 40), usedSlot(1, 8, 1, 40), freeSlot(2), usedSlot(3, 7, 2, 50)),
		"the same at both ends":    ledgerWith(busyLedger(impl.MaxSlots), impl.MaxSlots-1, usedSlot(0, 1, 2, 3)),
		"the same at the end":      ledgerWith(busyLedger(impl.MaxSlots), impl.MaxSlots-1, usedSlot(0, impl.MaxSlots-1, 2, 3)),
		"the same of the last gen": ledgerOf(usedSlot(impl.MaxGen, 7, 1, 40), usedSlot(0, 7, 1, 40)),
	}
	for name, s := range wrongSlots() {
		wrong["first: "+name] = ledgerOf(s, usedSlot(1, 8, 1, 40), freeSlot(2))
		wrong["in the midst: "+name] = ledgerOf(usedSlot(1, 8, 1, 40), s, freeSlot(2))
		wrong["last: "+name] = ledgerOf(usedSlot(1, 8, 1, 40), freeSlot(2), s)
	}
	return wrong
}

func TestLedgerConstants(t *testing.T) {
	if impl.MaxSlots != 60 || impl.MaxGen != 1000000 || impl.MaxId != 1000000 || impl.MaxClient != 1000 {
		t.Error("a constant of chapter 6 isn't what the document says")
	}
}

func TestSlotOk(t *testing.T) {
	for name, s := range rightSlots() {
		if !impl.SlotOk(s) {
			t.Errorf("%s: SlotOk says false", name)
		}
	}
	for name, s := range wrongSlots() {
		if impl.SlotOk(s) {
			t.Errorf("%s: SlotOk says true", name)
		}
	}
}

// edgeSlots are slots with every field at all its edges, beside all edges of the others.
func edgeSlots() []impl.Slot {
	var l []impl.Slot
	for _, used := range []bool{false, true} {
		for _, gen := range []int{minInt, -1, 0, 1, 999999, 1000000, 1000001, impl.MaxInt} {
			for _, req := range []int{minInt, -1, 0, 1, 2, 999999, 1000000, 1000001, impl.MaxInt} {
				for _, client := range []int{minInt, -1, 0, 1, 999, 1000, 1001, impl.MaxInt} {
					for _, since := range []int{minInt, -1, 0, 1, 999999999, 1000000000, 1000000001, impl.MaxInt} {
						l = append(l, impl.Slot{Gen: gen, Used: used, Req: req, Client: client, Since: since})
					}
				}
			}
		}
	}
	return l
}

// wantSlotOk and the other functions that begin so say what the document says, in the plainest way.
func wantSlotOk(s impl.Slot) bool {
	genOk := 0 <= s.Gen && s.Gen <= 1000000
	usedOk := 1 <= s.Req && s.Req <= 1000000 && 0 <= s.Client && s.Client <= 1000 && 0 <= s.Since && s.Since <= 1000000000
	return genOk && (s.Used && usedOk || !s.Used && s == impl.Slot{Gen: s.Gen})
}

func TestSlotOkAtAllEdges(t *testing.T) {
	for _, s := range edgeSlots() {
		if got := impl.SlotOk(s); got != wantSlotOk(s) {
			t.Errorf("SlotOk(%+v) = %v", s, got)
		}
		if got := impl.LedgerOk(ledgerOf(freeSlot(1), s)); got != wantSlotOk(s) {
			t.Errorf("LedgerOk says %v of a ledger with %+v", got, s)
		}
	}
}

func wantLedgerOk(l impl.Ledger) bool {
	seen := map[int]int{}
	for _, s := range l.Slots {
		if !wantSlotOk(s) {
			return false
		}
		if s.Used {
			seen[s.Req]++
		}
		if s.Used && seen[s.Req] > 1 {
			return false
		}
	}
	return len(l.Slots) <= 60
}

func TestLedgerOk(t *testing.T) {
	for name, l := range rightLedgers() {
		if !impl.LedgerOk(l) {
			t.Errorf("%s: LedgerOk says false", name)
		}
	}
	for name, l := range wrongLedgers() {
		if impl.LedgerOk(l) {
			t.Errorf("%s: LedgerOk says true", name)
		}
	}
}

func TestLedgerOkLooksAtEverySlot(t *testing.T) {
	for place := range impl.MaxSlots {
		for name, s := range wrongSlots() {
			if impl.LedgerOk(ledgerWith(busyLedger(impl.MaxSlots), place, s)) {
				t.Errorf("%s at place %d: LedgerOk says true", name, place)
			}
		}
	}
}

func TestLedgerOkLooksAtEveryPair(t *testing.T) {
	for a := range impl.MaxSlots {
		for b := range impl.MaxSlots {
			l := busyLedger(impl.MaxSlots)
			l.Slots[a].Req = l.Slots[b].Req
			if got := impl.LedgerOk(l); got != (a == b) {
				t.Errorf("the requests at %d and %d are alike: LedgerOk says %v", a, b, got)
			}
		}
	}
}

func TestLedgerOkByLength(t *testing.T) {
	for count := range 2*impl.MaxSlots + 1 {
		for _, l := range []impl.Ledger{busyLedger(count), repeated(freeSlot(3), count)} {
			if got := impl.LedgerOk(l); got != (count <= 60) {
				t.Errorf("%d slots: LedgerOk says %v", count, got)
			}
		}
	}
}

// smallLedgers are all ledgers of up to three of a few slots, right ones and wrong ones.
func smallLedgers() []impl.Ledger {
	kinds := []impl.Slot{
		freeSlot(0), freeSlot(2), freeSlot(impl.MaxGen), usedSlot(0, 7, 1, 40), usedSlot(2, 7, 2, 50),
		usedSlot(1, 8, 1, 40), usedSlot(impl.MaxGen, 9, 0, 0), usedSlot(1, 0, 1, 40), {Req: 8},
	}
	all := []impl.Ledger{{}}
	for from := 0; from < len(all); from++ {
		if len(all[from].Slots) == 3 {
			continue
		}
		for _, s := range kinds {
			all = append(all, impl.Ledger{Slots: append(slices.Clone(all[from].Slots), s)})
		}
	}
	return all
}

func TestLedgerOkOfEverySmallOne(t *testing.T) {
	for _, l := range smallLedgers() {
		if got := impl.LedgerOk(l); got != wantLedgerOk(l) {
			t.Errorf("LedgerOk(%+v) = %v", l, got)
		}
	}
}

func TestFlying(t *testing.T) {
	mixed := ledgerOf(usedSlot(0, 7, 1, 40), freeSlot(2), usedSlot(2, 8, 0, 40), usedSlot(1, 9, 1, 50), freeSlot(0), usedSlot(1, 6, impl.MaxClient, 50))
	// all that the others say is wrong, but used is used
	wrong := ledgerOf(usedSlot(-1, 0, -1, -1), usedSlot(1, 8, -1, 40), usedSlot(1, 8, impl.MaxClient+1, 40), impl.Slot{Client: -1}, impl.Slot{Client: 5})
	for _, c := range []struct {
		name         string
		l            impl.Ledger
		client       int
		want, wantOf int
	}{
		{"no slots", impl.Ledger{}, 0, 0, 0},
		{"an empty list", impl.Ledger{Slots: []impl.Slot{}}, 0, 0, 0},
		{"none used", ledgerOf(freeSlot(0), freeSlot(5), freeSlot(impl.MaxGen)), 0, 0, 0}, // a free slot has client 0
		{"none used, all there are", repeated(freeSlot(0), impl.MaxSlots), 0, 0, 0},
		{"all used", busyLedger(impl.MaxSlots), 0, 60, 12},
		{"all used", busyLedger(impl.MaxSlots), 4, 60, 12},
		{"all used", busyLedger(impl.MaxSlots), 5, 60, 0},
		{"all used, of one client", repeated(usedSlot(0, 1, 3, 0), impl.MaxSlots), 3, 60, 60},
		{"mixed", mixed, 0, 4, 1},
		{"mixed", mixed, 1, 4, 2},
		{"mixed", mixed, 2, 4, 0},
		{"mixed", mixed, impl.MaxClient, 4, 1},
		{"mixed", mixed, impl.MaxClient + 1, 4, 0},
		{"mixed", mixed, -1, 4, 0},
		{"mixed", mixed, minInt, 4, 0},
		{"mixed", mixed, impl.MaxInt, 4, 0},
		{"wrong", wrong, -1, 3, 2},
		{"wrong", wrong, impl.MaxClient + 1, 3, 1},
		{"wrong", wrong, 5, 3, 0},
		{"wrong", wrong, 0, 3, 0},
		{"the same request twice", ledgerOf(usedSlot(0, 7, 1, 40), usedSlot(0, 7, 1, 40)), 1, 2, 2},
		{"one too many", busyLedger(impl.MaxSlots + 1), 0, 61, 13},
		{"far too many", repeated(usedSlot(0, 1, 2, 3), 5000), 2, 5000, 5000},
		{"the ends of int", ledgerOf(usedSlot(minInt, minInt, minInt, minInt), usedSlot(0, 1, impl.MaxInt, 0)), minInt, 2, 1},
		{"the ends of int", ledgerOf(usedSlot(minInt, minInt, minInt, minInt), usedSlot(0, 1, impl.MaxInt, 0)), impl.MaxInt, 2, 1},
	} {
		if got := impl.Flying(c.l); got != c.want {
			t.Errorf("%s: Flying = %d, want %d", c.name, got, c.want)
		}
		if got := impl.FlyingOf(c.l, c.client); got != c.wantOf {
			t.Errorf("%s: FlyingOf %d = %d, want %d", c.name, c.client, got, c.wantOf)
		}
	}
}

// grantCase is a grant that is given: the slot at place becomes used, in the generation gen.
type grantCase struct {
	name       string
	l          impl.Ledger
	place, gen int
}

func givenGrants() []grantCase {
	over := freeSlot(impl.MaxGen)
	a, b := usedSlot(4, 7, 1, 40), usedSlot(2, 8, 0, 41)
	return []grantCase{
		{"no slots", impl.Ledger{}, 0, 0},
		{"an empty list", impl.Ledger{Slots: []impl.Slot{}}, 0, 0},
		{"all used", ledgerOf(a, b), 2, 0},
		{"one of them free", ledgerOf(freeSlot(0)), 0, 0},
		{"the first free", ledgerOf(freeSlot(3), a, b), 0, 3},
		{"in the midst free", ledgerOf(a, freeSlot(3), b), 1, 3},
		{"the last free", ledgerOf(a, b, freeSlot(3)), 2, 3},
		{"two free, the later of a lesser gen", ledgerOf(a, freeSlot(5), b, freeSlot(1)), 1, 5},
		{"two free, the later of a greater gen", ledgerOf(a, freeSlot(1), b, freeSlot(5)), 1, 1},
		{"free and just not over", ledgerOf(a, freeSlot(impl.MaxGen-1), freeSlot(0)), 1, impl.MaxGen - 1},
		{"the first free one is over", ledgerOf(a, over, b, freeSlot(6), freeSlot(2)), 3, 6},
		{"the first free ones are over", ledgerOf(over, over, a, freeSlot(0)), 3, 0},
		{"all free ones are over", ledgerOf(over, a, over, b), 4, 0},
		{"all are over", ledgerOf(over, over), 2, 0},
		{"used in the last gen", ledgerOf(usedSlot(impl.MaxGen, 7, 1, 40), freeSlot(2)), 1, 2},
		{"one less than all, used", busyLedger(impl.MaxSlots - 1), 59, 0},
		{"one less than all, over", repeated(over, impl.MaxSlots-1), 59, 0},
		{"all, the last is free", ledgerWith(busyLedger(impl.MaxSlots), 59, freeSlot(9)), 59, 9},
		{"all, the first is free", ledgerWith(busyLedger(impl.MaxSlots), 0, freeSlot(9)), 0, 9},
		{"all are over but one", ledgerWith(repeated(over, impl.MaxSlots), 33, freeSlot(8)), 33, 8},
		{"all are free", repeated(freeSlot(0), impl.MaxSlots), 0, 0},
	}
}

// checkGranted asks that just one slot is another one behind a grant: that at place, in the generation gen.
func checkGranted(t *testing.T, c grantCase, req int, client int, now int) {
	t.Helper()
	want := copyLedger(c.l)
	if c.place == len(want.Slots) {
		want.Slots = append(want.Slots, impl.Slot{})
	}
	want.Slots[c.place] = usedSlot(c.gen, req, client, now)
	got, p, ok := impl.Grant(c.l, req, client, now)
	if !ok || p != (impl.Permit{Slot: c.place, Gen: c.gen}) || !sameLedger(got, want) {
		t.Errorf("%s: Grant to %d of %d at %d = %+v, %+v, %v, want place %d and gen %d", c.name, req, client, now, got, p, ok, c.place, c.gen)
	}
	if !impl.LedgerOk(got) {
		t.Errorf("%s: Grant to %d of %d at %d makes a wrong ledger", c.name, req, client, now)
	}
}

func checkNotGranted(t *testing.T, name string, l impl.Ledger, req int, client int, now int) {
	t.Helper()
	if got, p, ok := impl.Grant(l, req, client, now); ok || p != (impl.Permit{}) || len(got.Slots) != 0 {
		t.Errorf("%s: Grant to %d of %d at %d = %+v, %+v, %v, want nothing and false", name, req, client, now, got, p, ok)
	}
}

func TestGrant(t *testing.T) {
	for _, c := range givenGrants() {
		for _, req := range []int{100, 999, impl.MaxId - 1, impl.MaxId} {
			for _, client := range []int{0, 1, 5, impl.MaxClient - 1, impl.MaxClient} {
				for _, now := range []int{0, 1, 40, impl.MaxTime - 1, impl.MaxTime} {
					checkGranted(t, c, req, client, now)
				}
			}
		}
	}
	checkGranted(t, grantCase{"request 1", ledgerOf(usedSlot(4, 2, 1, 40)), 1, 0}, 1, 1, 40)
	checkGranted(t, grantCase{"request 1 beside free ones", ledgerOf(freeSlot(impl.MaxGen), freeSlot(1)), 1, 1}, 1, 0, 0)
}

func TestGrantOfASlotThatWouldNotBeRight(t *testing.T) {
	for _, c := range givenGrants() {
		for _, req := range []int{minInt, -1, 0, impl.MaxId + 1, impl.MaxInt} {
			checkNotGranted(t, c.name, c.l, req, 1, 40)
			checkNotGranted(t, c.name, c.l, req, 0, 0)
		}
		for _, client := range []int{minInt, -1, impl.MaxClient + 1, impl.MaxInt} {
			checkNotGranted(t, c.name, c.l, 100, client, 40)
		}
		for _, now := range noTimes() {
			checkNotGranted(t, c.name, c.l, 100, 1, now)
		}
	}
}

func TestGrantToWhoHasOne(t *testing.T) {
	for name, l := range rightLedgers() {
		for _, s := range l.Slots {
			if !s.Used {
				continue
			}
			checkNotGranted(t, name, l, s.Req, s.Client, s.Since)
			checkNotGranted(t, name, l, s.Req, 77, 77)
		}
	}
}

func TestGrantWithoutRoom(t *testing.T) {
	over := freeSlot(impl.MaxGen)
	for name, l := range map[string]impl.Ledger{
		"all used":                busyLedger(impl.MaxSlots),
		"all over":                repeated(over, impl.MaxSlots),
		"all used, the last over": ledgerWith(busyLedger(impl.MaxSlots), 59, over),
		"all used, one over":      ledgerWith(busyLedger(impl.MaxSlots), 20, over),
		"all over, one used":      ledgerWith(repeated(over, impl.MaxSlots), 20, usedSlot(impl.MaxGen, 5, 1, 40)),
	} {
		if !impl.LedgerOk(l) {
			t.Fatalf("%s: the test made a wrong ledger", name)
		}
		for _, req := range []int{minInt, 0, 1, 100, impl.MaxId, impl.MaxInt} {
			checkNotGranted(t, name, l, req, 1, 40)
		}
	}
}

// TestGrantFillsTheLedger gives as many permits as there are slots, and none more.
func TestGrantFillsTheLedger(t *testing.T) {
	var l impl.Ledger
	for i := range impl.MaxSlots {
		next, p, ok := impl.Grant(l, i+1, 3, i)
		if !ok || p != (impl.Permit{Slot: i}) || impl.Flying(next) != i+1 || impl.FlyingOf(next, 3) != i+1 {
			t.Fatalf("grant %d = %+v, %v, and %d fly", i, p, ok, impl.Flying(next))
		}
		l = next
	}
	checkNotGranted(t, "full", l, 1000, 3, 0)
	l, _, _ = impl.Release(l, impl.Permit{Slot: 31})
	checkGranted(t, grantCase{"full but one", l, 31, 1}, 1000, 3, 0)
}

// releaseLedger has used and free slots, with each edge of a generation in both.
func releaseLedger() impl.Ledger {
	return ledgerOf(
		usedSlot(0, 7, 1, 40), freeSlot(0), usedSlot(5, 8, 0, 0), freeSlot(5), usedSlot(impl.MaxGen-1, 9, 1, 50),
		freeSlot(impl.MaxGen), usedSlot(impl.MaxGen, 10, impl.MaxClient, impl.MaxTime), usedSlot(3, impl.MaxId, 2, 60),
	)
}

func checkReleased(t *testing.T, name string, l impl.Ledger, p impl.Permit, gen int) impl.Ledger {
	t.Helper()
	want := ledgerWith(l, p.Slot, freeSlot(gen))
	got, s, ok := impl.Release(l, p)
	if !ok || s != l.Slots[p.Slot] || !sameLedger(got, want) {
		t.Errorf("%s: Release of %+v = %+v, %+v, %v, want the slot %+v as it was, and gen %d then", name, p, got, s, ok, l.Slots[p.Slot], gen)
	}
	if !impl.LedgerOk(got) || impl.Flying(got) != impl.Flying(l)-1 {
		t.Errorf("%s: Release of %+v makes a wrong ledger, or %d fly of %d", name, p, impl.Flying(got), impl.Flying(l))
	}
	return got
}

// checkGone asks that a permit that is no more changes nothing and brings no slot.
func checkGone(t *testing.T, name string, l impl.Ledger, p impl.Permit) {
	t.Helper()
	if got, s, ok := impl.Release(l, p); ok || s != (impl.Slot{}) || !sameLedger(got, l) {
		t.Errorf("%s: Release of %+v = %+v, %+v, %v, want the ledger, no slot and false", name, p, got, s, ok)
	}
}

func TestRelease(t *testing.T) {
	for _, c := range []struct{ place, gen, then int }{
		{0, 0, 1},
		{2, 5, 6},
		{4, impl.MaxGen - 1, impl.MaxGen},
		{6, impl.MaxGen, impl.MaxGen},
		{7, 3, 4},
	} {
		name := fmt.Sprintf("place %d", c.place)
		p := impl.Permit{Slot: c.place, Gen: c.gen}
		behind := checkReleased(t, name, releaseLedger(), p, c.then)
		checkGone(t, name+" once more", behind, p)
		checkGone(t, name+" in its next gen", behind, impl.Permit{Slot: c.place, Gen: c.then})
	}
}

func TestReleaseOfWhatIsNoMore(t *testing.T) {
	l := releaseLedger()
	for place := range len(l.Slots) {
		gen := l.Slots[place].Gen
		for _, other := range []int{minInt, -1, 0, 1, gen - 1, gen, gen + 1, gen + 2, impl.MaxGen, impl.MaxGen + 1, impl.MaxInt} {
			if l.Slots[place].Used && other == gen {
				continue
			}
			checkGone(t, fmt.Sprintf("place %d", place), l, impl.Permit{Slot: place, Gen: other})
		}
	}
	for _, place := range []int{minInt, -len(l.Slots), -2, -1, len(l.Slots), len(l.Slots) + 1, impl.MaxSlots - 1, impl.MaxSlots, impl.MaxInt} {
		for _, gen := range []int{minInt, -1, 0, 3, 5, impl.MaxGen, impl.MaxInt} {
			checkGone(t, "no such place", l, impl.Permit{Slot: place, Gen: gen})
			checkGone(t, "no slots", impl.Ledger{}, impl.Permit{Slot: place, Gen: gen})
		}
	}
	checkGone(t, "no slots", impl.Ledger{}, impl.Permit{})
	checkGone(t, "an empty list", impl.Ledger{Slots: []impl.Slot{}}, impl.Permit{})
	full := busyLedger(impl.MaxSlots)
	checkReleased(t, "full", full, impl.Permit{Slot: 59, Gen: 2}, 3)
	checkGone(t, "full", full, impl.Permit{Slot: 60, Gen: 2})
	checkGone(t, "full", full, impl.Permit{Slot: 60})
}

// P2: a permit whose slot was given anew doesn't take the new one back.
func TestAPermitThatComesTwice(t *testing.T) {
	l, old, _ := impl.Grant(impl.Ledger{}, 7, 1, 40)
	l = checkReleased(t, "the first time", l, old, 1)
	checkGone(t, "the second time", l, old)
	l, young, ok := impl.Grant(l, 8, 2, 50)
	if !ok || young != (impl.Permit{Slot: 0, Gen: 1}) {
		t.Fatalf("the slot given anew is %+v, %v", young, ok)
	}
	checkGone(t, "another flies there", l, old)
	checkReleased(t, "the new one", l, young, 2)
	same, again, ok := impl.Grant(checkReleased(t, "the new one", l, young, 2), 7, 1, 60)
	if !ok || again != (impl.Permit{Slot: 0, Gen: 2}) {
		t.Fatalf("the request that flew already gets %+v, %v", again, ok)
	}
	checkGone(t, "the same request flies anew", same, old)
	checkGone(t, "the same request flies anew", same, young)
}

// P2: many bring the same permits back, in any order; of each permit one of them has it.
func TestPermitsThatRace(t *testing.T) {
	const racers = 8
	l := busyLedger(impl.MaxSlots)
	var lock sync.Mutex
	var all sync.WaitGroup
	brought := map[impl.Slot]int{}
	for racer := range racers {
		all.Go(func() {
			for i := range impl.MaxSlots {
				place := (i*7 + racer*11) % impl.MaxSlots
				lock.Lock()
				next, s, ok := impl.Release(l, impl.Permit{Slot: place, Gen: place % 3})
				if ok {
					brought[s]++
				}
				l = next
				lock.Unlock()
			}
		})
	}
	all.Wait()
	for _, s := range busyLedger(impl.MaxSlots).Slots {
		if brought[s] != 1 {
			t.Errorf("%+v came back %d times", s, brought[s])
		}
	}
	if len(brought) != impl.MaxSlots || impl.Flying(l) != 0 {
		t.Errorf("%d came back, and %d fly", len(brought), impl.Flying(l))
	}
}

func TestPermitOf(t *testing.T) {
	l := releaseLedger()
	for _, c := range []struct {
		req  int
		want impl.Permit
		ok   bool
	}{
		{7, impl.Permit{Slot: 0, Gen: 0}, true},
		{8, impl.Permit{Slot: 2, Gen: 5}, true},
		{9, impl.Permit{Slot: 4, Gen: impl.MaxGen - 1}, true},
		{10, impl.Permit{Slot: 6, Gen: impl.MaxGen}, true},
		{impl.MaxId, impl.Permit{Slot: 7, Gen: 3}, true},
		{0, impl.Permit{}, false}, // what stands in a free slot
		{-1, impl.Permit{}, false},
		{1, impl.Permit{}, false},
		{6, impl.Permit{}, false},
		{11, impl.Permit{}, false},
		{impl.MaxId - 1, impl.Permit{}, false},
		{impl.MaxId + 1, impl.Permit{}, false},
		{minInt, impl.Permit{}, false},
		{impl.MaxInt, impl.Permit{}, false},
	} {
		if got, ok := impl.PermitOf(l, c.req); got != c.want || ok != c.ok {
			t.Errorf("PermitOf(%d) = %+v, %v, want %+v, %v", c.req, got, ok, c.want, c.ok)
		}
		for _, none := range []impl.Ledger{{}, repeated(freeSlot(0), 4), repeated(freeSlot(7), impl.MaxSlots)} {
			if got, ok := impl.PermitOf(none, c.req); ok || got != (impl.Permit{}) {
				t.Errorf("PermitOf(%d) = %+v, %v where nothing flies", c.req, got, ok)
			}
		}
	}
}

func TestPermitOfWhatCameBack(t *testing.T) {
	l := releaseLedger()
	for _, req := range []int{7, 8, 9, 10, impl.MaxId} {
		p, _ := impl.PermitOf(l, req)
		behind, _, ok := impl.Release(l, p)
		if got, there := impl.PermitOf(behind, req); !ok || there || got != (impl.Permit{}) {
			t.Errorf("PermitOf(%d) = %+v, %v behind its Release", req, got, there)
		}
	}
}

func TestLedgersAtWrongInputs(t *testing.T) {
	for name, l := range wrongLedgers() {
		for _, req := range []int{minInt, -1, 0, 1, 7, 8, 70, 100, impl.MaxId, impl.MaxInt} {
			checkNotGranted(t, name, l, req, 1, 40)
			if got, ok := impl.PermitOf(l, req); ok || got != (impl.Permit{}) {
				t.Errorf("%s: PermitOf(%d) = %+v, %v, want nothing and false", name, req, got, ok)
			}
		}
		for _, place := range []int{minInt, -1, 0, 1, 2, 59, 60, len(l.Slots), impl.MaxInt} {
			for _, gen := range []int{minInt, -1, 0, 1, 2, 5, impl.MaxGen, impl.MaxInt} {
				if got, s, ok := impl.Release(l, impl.Permit{Slot: place, Gen: gen}); ok || s != (impl.Slot{}) || len(got.Slots) != 0 {
					t.Errorf("%s: Release of %d, %d = %+v, %+v, %v, want nothing and false", name, place, gen, got, s, ok)
				}
			}
		}
	}
}

func wantGrant(l impl.Ledger, req int, client int, now int) (impl.Ledger, impl.Permit, bool) {
	if !wantLedgerOk(l) || !wantSlotOk(usedSlot(0, req, client, now)) {
		return impl.Ledger{}, impl.Permit{}, false
	}
	if _, there := wantPermitOf(l, req); there {
		return impl.Ledger{}, impl.Permit{}, false
	}
	for i, s := range l.Slots {
		if !s.Used && s.Gen < 1000000 {
			return ledgerWith(l, i, usedSlot(s.Gen, req, client, now)), impl.Permit{Slot: i, Gen: s.Gen}, true
		}
	}
	if len(l.Slots) == 60 {
		return impl.Ledger{}, impl.Permit{}, false
	}
	slots := append(slices.Clone(l.Slots), usedSlot(0, req, client, now))
	return impl.Ledger{Slots: slots}, impl.Permit{Slot: len(l.Slots)}, true
}

func wantRelease(l impl.Ledger, p impl.Permit) (impl.Ledger, impl.Slot, bool) {
	if !wantLedgerOk(l) {
		return impl.Ledger{}, impl.Slot{}, false
	}
	for i, s := range l.Slots {
		if s.Used && p == (impl.Permit{Slot: i, Gen: s.Gen}) {
			return ledgerWith(l, i, freeSlot(min(s.Gen+1, 1000000))), s, true
		}
	}
	return l, impl.Slot{}, false
}

func wantPermitOf(l impl.Ledger, req int) (impl.Permit, bool) {
	if !wantLedgerOk(l) {
		return impl.Permit{}, false
	}
	for i, s := range l.Slots {
		if s.Used && s.Req == req {
			return impl.Permit{Slot: i, Gen: s.Gen}, true
		}
	}
	return impl.Permit{}, false
}

// checkAgainstTheWords holds all calls on a ledger against what the document says of them.
func checkAgainstTheWords(t *testing.T, l impl.Ledger, req int, client int, now int, p impl.Permit) {
	t.Helper()
	got, gotP, ok := impl.Grant(l, req, client, now)
	want, wantP, wantOk := wantGrant(l, req, client, now)
	if !sameLedger(got, want) || gotP != wantP || ok != wantOk {
		t.Fatalf("Grant(%+v, %d, %d, %d) = %+v, %+v, %v, want %+v, %+v, %v", l, req, client, now, got, gotP, ok, want, wantP, wantOk)
	}
	got, s, ok := impl.Release(l, p)
	want, wantS, wantOk := wantRelease(l, p)
	if !sameLedger(got, want) || s != wantS || ok != wantOk {
		t.Fatalf("Release(%+v, %+v) = %+v, %+v, %v, want %+v, %+v, %v", l, p, got, s, ok, want, wantS, wantOk)
	}
	gotP, ok = impl.PermitOf(l, req)
	wantP, wantOk = wantPermitOf(l, req)
	if gotP != wantP || ok != wantOk {
		t.Fatalf("PermitOf(%+v, %d) = %+v, %v, want %+v, %v", l, req, gotP, ok, wantP, wantOk)
	}
	all, of := 0, 0
	for _, s := range l.Slots {
		if s.Used {
			all++
		}
		if s.Used && s.Client == client {
			of++
		}
	}
	if impl.Flying(l) != all || impl.FlyingOf(l, client) != of || impl.LedgerOk(l) != wantLedgerOk(l) {
		t.Fatalf("%+v: Flying %d, FlyingOf(%d) %d, LedgerOk %v", l, impl.Flying(l), client, impl.FlyingOf(l, client), impl.LedgerOk(l))
	}
}

// P10: every small ledger, with every request, permit and client that is near it.
func TestEverySmallLedger(t *testing.T) {
	for _, l := range smallLedgers() {
		for _, req := range []int{-1, 0, 1, 7, 8, 9} {
			for place := -1; place <= 3; place++ {
				for _, gen := range []int{-1, 0, 1, 2, impl.MaxGen} {
					checkAgainstTheWords(t, l, req, gen%3, 40, impl.Permit{Slot: place, Gen: gen})
				}
			}
		}
	}
}

// someLedger is a ledger of any length; now and then one slot of it, or its length, isn't right.
func someLedger(r *rand.Rand) impl.Ledger {
	count := r.Intn(impl.MaxSlots + 2)
	if r.Intn(3) > 0 {
		count = r.Intn(6)
	}
	gens := []int{0, 1, 2, 3, impl.MaxGen - 1, impl.MaxGen}
	var l impl.Ledger
	for i := range count {
		s := freeSlot(gens[r.Intn(len(gens))])
		if r.Intn(3) > 0 {
			s = usedSlot(s.Gen, i+1, r.Intn(4), r.Intn(100))
		}
		l.Slots = append(l.Slots, s)
	}
	r.Shuffle(count, func(i int, j int) { l.Slots[i], l.Slots[j] = l.Slots[j], l.Slots[i] })
	if count > 0 && r.Intn(8) == 0 {
		edges := edgeSlots()
		l.Slots[r.Intn(count)] = edges[r.Intn(len(edges))]
	}
	return l
}

// P10: ledgers of all lengths.
func TestLedgersEverywhere(t *testing.T) {
	r := rand.New(rand.NewSource(14))
	right, wrong := 0, 0
	for range 4000 {
		l := someLedger(r)
		if wantLedgerOk(l) {
			right++
		} else {
			wrong++
		}
		for range 10 {
			p := impl.Permit{Slot: r.Intn(len(l.Slots)+3) - 1, Gen: r.Intn(5) - 1}
			if p.Slot >= 0 && p.Slot < len(l.Slots) && r.Intn(3) > 0 {
				p.Gen = l.Slots[p.Slot].Gen
			}
			checkAgainstTheWords(t, l, r.Intn(70)-1, r.Intn(6)-1, r.Intn(102)-1, p)
		}
	}
	if right < 1000 || wrong < 100 {
		t.Errorf("the test met %d right and %d wrong ledgers", right, wrong)
	}
}

// flight is what a run knows of a permit that was given.
type flight struct {
	p impl.Permit
	s impl.Slot
}

// run is a ledger in use, with all permits of it that fly and all that came back.
type run struct {
	l    impl.Ledger
	up   []flight
	back []flight
	ever map[impl.Permit]int
}

func (x *run) grant(t *testing.T, req int, client int, now int) {
	t.Helper()
	flies := slices.ContainsFunc(x.up, func(f flight) bool { return f.s.Req == req })
	next, p, ok := impl.Grant(x.l, req, client, now)
	if flies && ok {
		t.Fatalf("%d flies, and has another permit: %+v", req, p)
	}
	if !ok {
		return
	}
	x.ever[p]++
	if x.ever[p] > 1 {
		t.Fatalf("%+v was given ahead of this", p)
	}
	x.up = append(x.up, flight{p, usedSlot(p.Gen, req, client, now)})
	x.sameBut(t, next, p.Slot)
	x.l = next
}

// bringBack asks that the flight at a place comes back as it went.
func (x *run) bringBack(t *testing.T, place int) {
	t.Helper()
	f := x.up[place]
	if p, ok := impl.PermitOf(x.l, f.s.Req); !ok || p != f.p {
		t.Fatalf("%d flies with %+v, but its permit is %+v, %v", f.s.Req, f.p, p, ok)
	}
	next, s, ok := impl.Release(x.l, f.p)
	if !ok || s != f.s {
		t.Fatalf("%+v brings %+v, %v back, want %+v", f.p, s, ok, f.s)
	}
	x.sameBut(t, next, f.p.Slot)
	x.l = next
	x.up = slices.Delete(x.up, place, place+1)
	x.back = append(x.back, f)
}

// sameBut asks that all slots but one are as they were.
func (x *run) sameBut(t *testing.T, next impl.Ledger, place int) {
	t.Helper()
	for i, s := range x.l.Slots {
		if i != place && (i >= len(next.Slots) || next.Slots[i] != s) {
			t.Fatalf("slot %d is another one behind what was done to slot %d", i, place)
		}
	}
}

// check asks that just those fly that the run knows of, with permits that are different, and that what came back stays so.
func (x *run) check(t *testing.T) {
	t.Helper()
	if !impl.LedgerOk(x.l) || impl.Flying(x.l) != len(x.up) {
		t.Fatalf("%d fly, the ledger tells %d, right: %v", len(x.up), impl.Flying(x.l), impl.LedgerOk(x.l))
	}
	held := map[impl.Permit]int{}
	for _, f := range x.up {
		p, _ := impl.PermitOf(x.l, f.s.Req)
		held[p]++
		if held[p] > 1 {
			t.Fatalf("two that fly have %+v", p)
		}
	}
	for _, f := range x.back[max(0, len(x.back)-40):] {
		checkGone(t, "it came back", x.l, f.p)
	}
}

// P2: in runs of grants and releases permits of requests that fly are different ones, and each brings its own request back, once.
func TestPermitsInUse(t *testing.T) {
	r := rand.New(rand.NewSource(15))
	most := 0
	for round := range 30 {
		x := run{ever: map[impl.Permit]int{}}
		if round%3 == 0 { // slots that are nearly over
			x.l = repeated(freeSlot(impl.MaxGen-3), r.Intn(impl.MaxSlots))
		}
		busy := 2 + r.Intn(9)
		for now := range 400 {
			if len(x.up) > 0 && r.Intn(10) >= busy {
				x.bringBack(t, r.Intn(len(x.up)))
			} else {
				x.grant(t, 1+r.Intn(120), r.Intn(4), now)
			}
			x.check(t)
			most = max(most, len(x.up))
		}
		for len(x.up) > 0 {
			x.bringBack(t, 0)
			x.check(t)
		}
		for _, f := range x.back {
			checkGone(t, "all came back", x.l, f.p)
		}
	}
	if most != impl.MaxSlots {
		t.Errorf("no more than %d flew at once", most)
	}
}

// P2: a slot is given until its generations are over, and never again; its permits are different to the last.
func TestAllGenerationsOfTheSlots(t *testing.T) {
	x := run{l: repeated(freeSlot(impl.MaxGen-2), impl.MaxSlots), ever: map[impl.Permit]int{}}
	for req := 1; ; req++ {
		before := len(x.up)
		x.grant(t, req, 1, req)
		if len(x.up) == before {
			break
		}
		x.bringBack(t, 0)
		x.check(t)
	}
	if len(x.back) != 2*impl.MaxSlots || !sameLedger(x.l, repeated(freeSlot(impl.MaxGen), impl.MaxSlots)) {
		t.Errorf("%d were given, and %+v is left", len(x.back), x.l)
	}
	for _, f := range x.back {
		checkGone(t, "all are over", x.l, f.p)
	}
}

// P2: the whole life of one slot, from the first generation to the last.
func TestTheLifeOfOneSlot(t *testing.T) {
	var l impl.Ledger
	for gen := range impl.MaxGen {
		next, p, ok := impl.Grant(l, 1+gen%7, gen%3, gen)
		if !ok || p != (impl.Permit{Gen: gen}) {
			t.Fatalf("grant %d = %+v, %v", gen, p, ok)
		}
		var s impl.Slot
		l, s, ok = impl.Release(next, p)
		if !ok || s != usedSlot(gen, 1+gen%7, gen%3, gen) || !sameLedger(l, ledgerOf(freeSlot(gen+1))) {
			t.Fatalf("release %d = %+v, %+v, %v", gen, l, s, ok)
		}
	}
	checkGranted(t, grantCase{"behind the last generation", l, 1, 0}, 5, 1, 40)
}

// P2: Release makes of what Grant made the ledger's other slots as they were.
func TestReleaseUndoesGrant(t *testing.T) {
	for name, l := range rightLedgers() {
		granted, p, ok := impl.Grant(l, 500, 3, 77)
		if !ok {
			continue
		}
		want := copyLedger(l)
		if p.Slot == len(want.Slots) {
			want.Slots = append(want.Slots, impl.Slot{})
		}
		want.Slots[p.Slot].Gen++
		if got, s, ok := impl.Release(granted, p); !ok || s != usedSlot(p.Gen, 500, 3, 77) || !sameLedger(got, want) {
			t.Errorf("%s: Grant and Release come to %+v, %+v, %v, want %+v", name, got, s, ok, want)
		}
	}
}

// ledgerCalls are calls that answer a ledger, at arguments of all their ways.
func ledgerCalls() map[string]func(impl.Ledger) impl.Ledger {
	calls := map[string]func(impl.Ledger) impl.Ledger{}
	for _, req := range []int{0, 1, 7, 500} {
		calls[fmt.Sprintf("Grant to %d", req)] = func(l impl.Ledger) impl.Ledger {
			g, _, _ := impl.Grant(l, req, 1, 40)
			return g
		}
	}
	for _, place := range []int{-1, 0, 1, 2, 59, 60} {
		for _, gen := range []int{0, 1, 2, 5} {
			calls[fmt.Sprintf("Release of %d, %d", place, gen)] = func(l impl.Ledger) impl.Ledger {
				g, _, _ := impl.Release(l, impl.Permit{Slot: place, Gen: gen})
				return g
			}
		}
	}
	return calls
}

// checkOwnList asks that a call neither changes the list that it is given, which stands at the front of under, nor shares it. Junk is written over all that its answers reach.
func checkOwnList[T comparable](t *testing.T, name string, under []T, junk T, call func() []T) {
	t.Helper()
	whole := slices.Clone(under)
	answer, again := call(), call()
	kept := slices.Clone(again)
	if !slices.Equal(under, whole) {
		t.Errorf("%s: changed its argument", name)
	}
	if !slices.Equal(answer, again) {
		t.Errorf("%s: a second call answers %+v, the first %+v", name, again, answer)
	}
	room := answer[:cap(answer)]
	for i := range room {
		room[i] = junk
	}
	if !slices.Equal(under, whole) || !slices.Equal(again, kept) {
		t.Errorf("%s: a write into its answer shows elsewhere", name)
	}
	for i := range under {
		under[i] = junk
	}
	if !slices.Equal(again, kept) {
		t.Errorf("%s: its answer changes with the argument", name)
	}
}

// Chapter 1: no argument is changed, no answer shares memory with one, and what a call answers hangs on its arguments alone.
func TestLedgersShareNoMemory(t *testing.T) {
	given := rightLedgers()
	given["for releases"] = releaseLedger()
	for name, l := range wrongLedgers() {
		given["wrong: "+name] = l
	}
	for name, g := range given {
		for what, call := range ledgerCalls() {
			// room behind the slots, into which an append would write
			under := append(slices.Clone(g.Slots), freeSlot(5), usedSlot(6, 6, 6, 6), freeSlot(7))
			l := impl.Ledger{Slots: under[:len(g.Slots)]}
			checkOwnList(t, name+": "+what, under, usedSlot(77, 77, 77, 77), func() []impl.Slot {
				impl.LedgerOk(l)
				impl.Flying(l)
				impl.FlyingOf(l, 1)
				impl.PermitOf(l, 7)
				return call(l).Slots
			})
		}
	}
}
