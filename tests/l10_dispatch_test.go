package tests

import (
	"fmt"
	"math/rand"
	"reflect"
	"slices"
	"sync"
	"testing"

	"loop.example/g00685/impl"
)

// lineUp is a machine at 100 in which nobody flies yet and these wait; it has a limit, and lets no more than most of one client fly.
func lineUp(limit int, most int, reqs ...impl.Req) impl.Adm {
	a := busyAdm()
	a.Cfg.Lim.Min, a.Cfg.Lim.Max = 1, impl.MaxLimit
	a.Lim.Cfg, a.Lim.Limit = a.Cfg.Lim, limit
	a.Cfg.Cap, a.Cfg.Room, a.Cfg.Tiers = most, impl.MaxRoom, 4
	a.Slow = append(a.Slow, slowCodel(170))
	a.Led = impl.Ledger{}
	a.Q = queueOf(impl.MaxRoom, reqs...)
	return knowing(a)
}

// beside is a copy of a machine in which these slots stand.
func beside(a impl.Adm, slots ...impl.Slot) impl.Adm {
	a = copyAdm(a)
	a.Led = ledgerOf(slots...)
	return knowing(a)
}

// waits is a request that came at 50.
func waits(id int, tier int, client int) impl.Req {
	return impl.Req{Id: id, Tier: tier, Client: client, Came: 50}
}

// flies are so many used slots of a client, of requests from a number on.
func flies(first int, count int, client int) []impl.Slot {
	var slots []impl.Slot
	for i := range count {
		slots = append(slots, usedSlot(0, first+i, client, 40))
	}
	return slots
}

// flyMany are so many used slots, each of a client of its own from 500 on.
func flyMany(count int) []impl.Slot {
	var slots []impl.Slot
	for i := range count {
		slots = append(slots, usedSlot(0, 500+i, 500+i, 40))
	}
	return slots
}

// waitMany are so many requests in order, each of a client of its own.
func waitMany(count int) []impl.Req {
	var reqs []impl.Req
	for i := range count {
		reqs = append(reqs, waits(i+1, i%4, i+1))
	}
	return reqs
}

// worn are so many free slots that can't be given any more.
func worn(count int) []impl.Slot { return repeated(freeSlot(impl.MaxGen), count).Slots }

// nextCase is a right machine, and the Id of who may be let through next, 0 where nobody may.
type nextCase struct {
	name string
	a    impl.Adm
	id   int
}

func roomCases() []nextCase {
	cases := []nextCase{
		{"new", newAdm(plainCfg()), 0},
		{"busy", busyAdm(), 4},
		{"nobody waits", lineUp(10, 3), 0},
		{"nobody waits, some fly", beside(lineUp(10, 3), flyMany(4)...), 0},
		{"nobody waits, and there is room for nobody", busyWith(func(a *impl.Adm) { a.Cfg.Room, a.Q = 0, impl.Queue{} }), 0},
		{"one waits", lineUp(10, 3, waits(7, 2, 5)), 7},
		{"one waits, at the least limit", lineUp(1, 3, waits(7, 2, 5)), 7},
		{"one waits, at the greatest limit", lineUp(impl.MaxLimit, 3, waits(7, 2, 5)), 7},
		{"one waits, at the least limit, and one flies", beside(lineUp(1, 3, waits(7, 2, 5)), flyMany(1)...), 0},
		{"one waits, and far more fly than may", beside(lineUp(1, 3, waits(7, 2, 5)), flyMany(59)...), 0},
		{"one waits since now", lineUp(10, 3, impl.Req{Id: 7, Tier: 2, Client: 5, Came: 100}), 7},
		{"one waits that is late", lineUp(10, 3, impl.Req{Id: 7, Client: 5, Came: 50, Deadline: 60}), 7},
		{"one waits whose deadline is now", lineUp(10, 3, impl.Req{Id: 7, Client: 5, Came: 50, Deadline: 100}), 7},
		{"one waits on another try", lineUp(10, 3, impl.Req{Id: 7, Client: 5, Came: 50, Try: impl.MaxTry}), 7},
		{"the least and the greatest of all", lineUp(10, 3, impl.Req{Id: impl.MaxId, Tier: 3, Client: impl.MaxClient, Came: 100, Deadline: lastTime, Try: 20}), impl.MaxId},
		{"client 0", lineUp(10, 1, waits(7, 2, 0)), 7},
		{"client 0 flies beside free slots", beside(lineUp(10, 1, waits(7, 2, 0)), freeSlot(1), usedSlot(1, 9, 0, 50)), 0},
		{"client 0 waits beside free slots", beside(lineUp(10, 1, waits(7, 2, 0)), freeSlot(1), freeSlot(2)), 7},
		{"a slow queue, one waits", admWith(lineUp(10, 3, waits(7, 2, 5)), func(a *impl.Adm) { a.Slow[2] = dropCodel(110, 5) }), 7},
		{"no budget, one waits on another try", admWith(lineUp(10, 3, impl.Req{Id: 7, Came: 50, Try: 1}), func(a *impl.Adm) { a.Tries.Have = 0 }), 7},
		{"at time 0", admWith(lineUp(10, 3, impl.Req{Id: 7}), func(a *impl.Adm) { a.Now, a.Tries.At = 0, 0 }), 7},
		{"at the end of time", admWith(lineUp(10, 3, waits(7, 2, 5)), func(a *impl.Adm) { a.Now = lastTime }), 7},
	}
	for _, flying := range []int{1, 2, 3, 17, 58, 59} {
		for _, more := range []int{-2, -1, 0, 1, 2} {
			id := 0
			if more > 0 {
				id = 7
			}
			if flying+more > 0 {
				a := beside(lineUp(flying+more, 3, waits(7, 2, 5), waits(8, 2, 6)), flyMany(flying)...)
				cases = append(cases, nextCase{fmt.Sprintf("%d fly, the limit is %d", flying, flying+more), a, id})
			}
		}
	}
	return cases
}

func tierCases() []nextCase {
	cases := []nextCase{
		{"several of one tier", lineUp(10, 3, waits(9, 2, 1), waits(2, 2, 1), waits(5, 2, 1)), 9},
		{"several of one tier, the first came ahead of the others", lineUp(10, 3, keyed(2, 49, 9), keyed(2, 50, 2), keyed(2, 50, 5)), 9},
		{"several of one tier, of the first's time all but one", lineUp(10, 3, keyed(1, 50, 9), keyed(1, 50, 2), keyed(1, 51, 1)), 9},
		{"a better tier behind", lineUp(10, 3, waits(2, 2, 1), waits(5, 2, 1), waits(9, 1, 1)), 9},
		{"two of the better tier behind", lineUp(10, 3, waits(2, 2, 1), waits(9, 0, 1), waits(5, 0, 1)), 9},
		{"the last of them is of tier 0", lineUp(10, 3, waits(1, 3, 1), waits(2, 3, 2), waits(3, 1, 3), waits(4, 2, 4), waits(60, 0, 5)), 60},
		{"a deadline doesn't count", lineUp(10, 3, waits(2, 2, 1), impl.Req{Id: 9, Tier: 2, Client: 1, Came: 50, Deadline: 101}), 2},
		{"a try doesn't count", lineUp(10, 3, impl.Req{Id: 9, Tier: 2, Came: 50, Try: 5}, waits(2, 2, 1)), 9},
		{"a slow tier is the first all the same", lineUp(10, 3, waits(2, 3, 1), waits(9, 2, 1)), 9},
	}
	for first := range 4 {
		for second := range 4 {
			for third := range 4 {
				fourth := 6 - first - second - third
				if first == second || first == third || second == third {
					continue
				}
				l := []impl.Req{waits(21, first, 1), waits(22, second, 1), waits(23, third, 1), waits(24, fourth, 1)}
				id := 0
				for _, r := range l {
					if r.Tier == 0 {
						id = r.Id
					}
				}
				cases = append(cases, nextCase{fmt.Sprintf("one of each tier: %d, %d, %d, %d", first, second, third, fourth), lineUp(10, 3, l...), id})
			}
		}
	}
	return cases
}

func capCases() []nextCase {
	two := []impl.Req{waits(7, 1, 1), waits(8, 1, 2)}
	cases := []nextCase{
		{"all clients at the cap", beside(lineUp(20, 2, two...), append(flies(30, 2, 1), flies(40, 2, 2)...)...), 0},
		{"the one client at the cap", beside(lineUp(20, 2, waits(7, 1, 1), waits(8, 1, 1)), flies(30, 2, 1)...), 0},
		{"the first of the better tier at the cap, the next of it not", beside(lineUp(20, 2, waits(7, 0, 1), waits(8, 0, 2), waits(9, 1, 3)), flies(30, 2, 1)...), 8},
		{"all of the better tier at the cap", beside(lineUp(20, 2, waits(9, 1, 3), waits(7, 0, 1), waits(8, 0, 1)), flies(30, 2, 1)...), 9},
		{"all but the last of the worst tier", beside(lineUp(20, 2, waits(5, 0, 1), waits(6, 1, 1), waits(7, 2, 1), waits(8, 3, 1), waits(9, 3, 0)), flies(30, 2, 1)...), 9},
		{"at the cap, and no room either", beside(lineUp(2, 2, waits(7, 0, 1)), flies(30, 2, 1)...), 0},
		{"below the cap, but no room", beside(lineUp(2, 3, waits(7, 0, 1)), flies(30, 2, 1)...), 0},
		{"the greatest cap, all of it flies", beside(lineUp(200, impl.MaxSlots, two...), flies(30, impl.MaxSlots, 1)...), 0},
		{"the greatest cap, one less flies", beside(lineUp(200, impl.MaxSlots, two...), flies(30, impl.MaxSlots-1, 1)...), 7},
		{"a cap above the limit", lineUp(2, impl.MaxSlots, waits(7, 1, 1), waits(8, 1, 1)), 7},
	}
	for _, most := range []int{1, 2, 3, 12, 29, 30} {
		both := func(a int, b int) []impl.Slot { return append(flies(100, a, 1), flies(200, b, 2)...) }
		name := fmt.Sprintf("a cap of %d, ", most)
		cases = append(cases,
			nextCase{name + "nobody flies", lineUp(100, most, two...), 7},
			nextCase{name + "both have one less", beside(lineUp(100, most, two...), both(most-1, most-1)...), 7},
			nextCase{name + "the first has all, the second one less", beside(lineUp(100, most, two...), both(most, most-1)...), 8},
			nextCase{name + "the first has one less, the second all", beside(lineUp(100, most, two...), both(most-1, most)...), 7},
			nextCase{name + "both have all", beside(lineUp(100, most, two...), both(most, most)...), 0},
		)
	}
	return cases
}

func slotCases() []nextCase {
	one := lineUp(200, impl.MaxSlots, waits(7, 1, 1), waits(8, 3, 2))
	cases := []nextCase{
		{"each slot flies", beside(one, flyMany(impl.MaxSlots)...), 0},
		{"each slot flies, at the greatest limit", admWith(beside(one, flyMany(impl.MaxSlots)...), func(a *impl.Adm) { a.Lim.Limit = impl.MaxLimit }), 0},
		{"each slot flies, and one is missing", beside(one, flyMany(impl.MaxSlots-1)...), 7},
		{"all slots are worn out", beside(one, worn(impl.MaxSlots)...), 0},
		{"all slots but one are worn out, and that one flies", beside(one, append(worn(impl.MaxSlots-1), flyMany(1)...)...), 0},
		{"all slots are worn out, and one is missing", beside(one, worn(impl.MaxSlots-1)...), 7},
		{"free slots alone", beside(one, repeated(freeSlot(3), impl.MaxSlots).Slots...), 7},
		{"used slots of the last generation", beside(one, usedSlot(impl.MaxGen, 30, 4, 50)), 7},
	}
	for _, place := range []int{0, 1, 31, 58, 59} {
		for gen, id := range map[int]int{impl.MaxGen: 0, impl.MaxGen - 1: 7, 0: 7} {
			slots := flyMany(impl.MaxSlots)
			slots[place] = freeSlot(gen)
			cases = append(cases, nextCase{fmt.Sprintf("each slot flies, but %d is free, of generation %d", place, gen), beside(one, slots...), id})
			slots = worn(impl.MaxSlots)
			slots[place] = freeSlot(gen)
			cases = append(cases, nextCase{fmt.Sprintf("all are worn out, and %d is of generation %d", place, gen), beside(one, slots...), id})
		}
	}
	return cases
}

func nextCases() []nextCase {
	return slices.Concat(roomCases(), tierCases(), capCases(), slotCases())
}

func TestNext(t *testing.T) {
	for _, c := range nextCases() {
		if !impl.AdmOk(c.a) {
			t.Fatalf("%s: the test's machine isn't right: %q", c.name, brokenRules(c.a))
		}
		var want impl.Req
		for _, r := range c.a.Q.Reqs {
			if r.Id == c.id {
				want = r
			}
		}
		if got, ok := impl.Next(c.a); got != want || ok != (c.id > 0) || got.Id != c.id {
			t.Errorf("%s: Next = %+v, %v, want %+v", c.name, got, ok, want)
		}
		if got := impl.Settled(c.a); got != (c.id == 0) {
			t.Errorf("%s: Settled = %v", c.name, got)
		}
	}
}

func TestThrough(t *testing.T) {
	for _, c := range nextCases() {
		got, out, ok := impl.Through(c.a)
		if ok != (c.id > 0) || out.Req != c.id {
			t.Errorf("%s: Through tells %+v, %v, want %d", c.name, out, ok, c.id)
			continue
		}
		if !ok {
			if !sameAdm(got, c.a) || out != (impl.Out{}) {
				t.Errorf("%s: Through tells %+v, %+v where nobody may go", c.name, got, out)
			}
			continue
		}
		checkLetThrough(t, c.name, c.a, got, []impl.Out{out})
	}
}

// The permit that is told is of the first slot that can be given, with its generation.
func TestThroughTellsThePermit(t *testing.T) {
	one := lineUp(200, 5, waits(7, 1, 1))
	for name, c := range map[string]struct {
		slots []impl.Slot
		want  impl.Permit
	}{
		"no slots":                      {nil, impl.Permit{}},
		"behind those that fly":         {flyMany(3), impl.Permit{Slot: 3}},
		"a free slot at the front":      {append([]impl.Slot{freeSlot(4)}, flyMany(3)...), impl.Permit{Slot: 0, Gen: 4}},
		"a free slot in the midst":      {[]impl.Slot{usedSlot(5, 30, 2, 40), freeSlot(9), usedSlot(1, 31, 2, 40)}, impl.Permit{Slot: 1, Gen: 9}},
		"two free slots":                {[]impl.Slot{usedSlot(5, 30, 2, 40), freeSlot(9), freeSlot(0)}, impl.Permit{Slot: 1, Gen: 9}},
		"a worn one ahead of a free":    {[]impl.Slot{freeSlot(impl.MaxGen), freeSlot(2)}, impl.Permit{Slot: 1, Gen: 2}},
		"a worn one, and a new one":     {worn(1), impl.Permit{Slot: 1}},
		"almost worn":                   {[]impl.Slot{freeSlot(impl.MaxGen - 1)}, impl.Permit{Slot: 0, Gen: impl.MaxGen - 1}},
		"the last slot, new":            {flyMany(impl.MaxSlots - 1), impl.Permit{Slot: impl.MaxSlots - 1}},
		"the last slot, almost worn":    {append(flyMany(impl.MaxSlots-1), freeSlot(impl.MaxGen-1)), impl.Permit{Slot: impl.MaxSlots - 1, Gen: impl.MaxGen - 1}},
		"the last slot, new, all worn":  {worn(impl.MaxSlots - 1), impl.Permit{Slot: impl.MaxSlots - 1}},
		"the last slot, free, all worn": {append(worn(impl.MaxSlots-1), freeSlot(0)), impl.Permit{Slot: impl.MaxSlots - 1}},
	} {
		for _, now := range []int{100, 101, lastTime} {
			a := admWith(beside(one, c.slots...), func(a *impl.Adm) { a.Now = now })
			b, out, ok := impl.Through(a)
			if want := grantOut(7, now, c.want.Slot, c.want.Gen); !ok || out != want {
				t.Errorf("%s at %d: Through tells %+v, %v, want %+v", name, now, out, ok, want)
				continue
			}
			if s := b.Led.Slots[out.P.Slot]; s != usedSlot(c.want.Gen, 7, 1, now) || len(b.Q.Reqs) != 0 {
				t.Errorf("%s at %d: the slot is %+v, and %v wait", name, now, s, idsOf(b.Q.Reqs))
			}
		}
	}
}

// checkLetThrough asks what the document promises of what a right machine has come to by letting these through, whoever may still go.
func checkLetThrough(t *testing.T, name string, a impl.Adm, b impl.Adm, outs []impl.Out) {
	t.Helper()
	if !impl.AdmOk(b) {
		t.Errorf("%s: what comes of it isn't right: %q", name, brokenRules(b))
	}
	left := copyQueue(a.Q)
	slots := slices.Clone(a.Led.Slots)
	for _, out := range outs {
		place := slices.IndexFunc(left.Reqs, func(r impl.Req) bool { return r.Id == out.Req })
		if place < 0 || !impl.OutOk(out) || out.Kind != impl.OuGrant || out.At != a.Now {
			t.Errorf("%s: it tells %+v at %d, and %v wait", name, out, a.Now, idsOf(left.Reqs))
			return
		}
		mayGo(t, name, a, left.Reqs, slots, place)
		if p, there := impl.PermitOf(b.Led, out.Req); !there || p != out.P {
			t.Errorf("%s: it tells %+v, and the permit is %+v", name, out, p)
		}
		slots = givenTo(t, name, slots, out, left.Reqs[place].Client)
		left.Reqs = slices.Delete(left.Reqs, place, place+1)
	}
	want := a
	want.Q, want.Led = left, impl.Ledger{Slots: slots}
	if !sameAdm(b, want) {
		t.Errorf("%s: it comes to %+v, want %+v", name, b, want)
	}
	if len(outs) > impl.Room(a) {
		t.Errorf("%s: %d go, and there was room for %d", name, len(outs), impl.Room(a))
	}
}

// flyingIn is how many used slots there are of a client.
func flyingIn(slots []impl.Slot, client int) int {
	return impl.FlyingOf(impl.Ledger{Slots: slots}, client)
}

// mayGo asks that who stands at a place may go, and that nobody ahead of it may: none of a lesser tier, and none that stands ahead in its own.
func mayGo(t *testing.T, name string, a impl.Adm, reqs []impl.Req, slots []impl.Slot, place int) {
	t.Helper()
	next := reqs[place]
	if flyingIn(slots, next.Client) >= a.Cfg.Cap {
		t.Errorf("%s: %+v goes, and %d of its client fly", name, next, flyingIn(slots, next.Client))
	}
	for i, r := range reqs {
		ahead := r.Tier < next.Tier || r.Tier == next.Tier && i < place
		if ahead && flyingIn(slots, r.Client) < a.Cfg.Cap {
			t.Errorf("%s: %+v goes ahead of %+v", name, next, r)
		}
	}
}

// givenTo are the slots with the one of an outcome given. It asks that this one could be given, and none ahead of it.
func givenTo(t *testing.T, name string, slots []impl.Slot, out impl.Out, client int) []impl.Slot {
	t.Helper()
	first := slices.IndexFunc(slots, func(s impl.Slot) bool { return !s.Used && s.Gen < impl.MaxGen })
	if first < 0 {
		first = len(slots)
		slots = append(slots, impl.Slot{})
	}
	if out.P != (impl.Permit{Slot: first, Gen: slots[first].Gen}) {
		t.Errorf("%s: it tells %+v, and the first slot is %d, %+v", name, out, first, slots[first])
	}
	slots[first] = usedSlot(slots[first].Gen, out.Req, client, out.At)
	return slots
}

// checkNobodyLeft asks P3 of a machine that has been dispatched: where there is room, and slots, everybody who waits has a client that may have no more.
func checkNobodyLeft(t *testing.T, name string, b impl.Adm) {
	t.Helper()
	canGive := len(b.Led.Slots) < impl.MaxSlots || slices.ContainsFunc(b.Led.Slots, func(s impl.Slot) bool { return !s.Used && s.Gen < impl.MaxGen })
	for _, r := range b.Q.Reqs {
		if impl.Room(b) > 0 && canGive && impl.FlyingOf(b.Led, r.Client) != b.Cfg.Cap {
			t.Errorf("%s: %+v is left, though %d of its client fly and there is room", name, r, impl.FlyingOf(b.Led, r.Client))
		}
	}
	if !impl.Settled(b) {
		t.Errorf("%s: Settled says false of what Dispatch answers", name)
	}
	if again, more := impl.Dispatch(b); len(more) != 0 || !sameAdm(again, b) {
		t.Errorf("%s: Dispatch of what it answers lets %+v through", name, more)
	}
}

func checkDispatch(t *testing.T, name string, a impl.Adm, ids []int) {
	t.Helper()
	if !impl.AdmOk(a) {
		t.Fatalf("%s: the test's machine isn't right: %q", name, brokenRules(a))
	}
	b, outs := impl.Dispatch(a)
	var got []int
	for _, out := range outs {
		got = append(got, out.Req)
	}
	if !slices.Equal(got, ids) {
		t.Errorf("%s: Dispatch lets %v through, want %v", name, got, ids)
	}
	checkLetThrough(t, name, a, b, outs)
	checkNobodyLeft(t, name, b)
}

func TestDispatchOneAfterTheOther(t *testing.T) {
	ones := []impl.Req{waits(1, 1, 1), waits(2, 1, 1), waits(3, 1, 1), waits(4, 1, 2)}
	mixed := lineUp(100, 2, mixedQueue().Reqs...)
	for _, c := range []struct {
		name string
		a    impl.Adm
		ids  []int
	}{
		{"new", newAdm(plainCfg()), nil},
		{"busy", busyAdm(), []int{4, 30, 8}},
		{"busy, one less than wait", busyWith(func(a *impl.Adm) { a.Lim.Limit = 5 }), []int{4, 30}},
		{"busy, for one", busyWith(func(a *impl.Adm) { a.Lim.Limit = 4 }), []int{4}},
		{"busy, no room", busyWith(func(a *impl.Adm) { a.Lim.Limit = 3 }), nil},
		{"one of each tier", lineUp(9, 3, waits(21, 3, 1), waits(22, 1, 2), waits(23, 0, 3), waits(24, 2, 4)), []int{23, 22, 24, 21}},
		{"several of each tier", mixed, []int{8, 7, 9, 4, 5, 3}},
		{"several of each tier, a cap of one", admWith(mixed, func(a *impl.Adm) { a.Cfg.Cap = 1 }), []int{8, 7, 5, 3}},
		{"several of each tier, for three", admWith(mixed, func(a *impl.Adm) { a.Lim.Limit = 3 }), []int{8, 7, 9}},
		{"several of each tier, a cap of one, for three", admWith(mixed, func(a *impl.Adm) { a.Cfg.Cap, a.Lim.Limit = 1, 3 }), []int{8, 7, 5}},
		{"a client comes to the cap", lineUp(100, 2, ones...), []int{1, 2, 4}},
		{"a client comes to the cap, for two", lineUp(2, 2, ones...), []int{1, 2}},
		{"a client comes to the cap, for three", lineUp(3, 2, ones...), []int{1, 2, 4}},
		{"a client comes to the cap at once", beside(lineUp(100, 2, ones...), flies(30, 1, 1)...), []int{1, 4}},
		{"a client is at the cap", beside(lineUp(100, 2, ones...), flies(30, 2, 1)...), []int{4}},
		{"both clients are at the cap", beside(lineUp(100, 2, ones...), append(flies(30, 2, 1), flies(40, 2, 2)...)...), nil},
		{"a worse tier goes where a client is at the cap", lineUp(100, 1, waits(1, 0, 1), waits(2, 0, 1), waits(3, 3, 2), waits(4, 2, 1)), []int{1, 3}},
		{"the same client in all tiers", lineUp(100, 2, waits(1, 3, 1), waits(2, 2, 1), waits(3, 1, 1), waits(4, 0, 1)), []int{4, 3}},
		{"cap 1, all of one client", lineUp(100, 1, ones[:3]...), []int{1}},
		{"the greatest cap, all of one client", lineUp(100, impl.MaxSlots, ones[:3]...), []int{1, 2, 3}},
		{"one slot is left", beside(lineUp(100, 5, ones...), flyMany(impl.MaxSlots-1)...), []int{1}},
		{"two slots are left, one free and one new", beside(lineUp(100, 5, ones...), append(flyMany(impl.MaxSlots-2), freeSlot(8))...), []int{1, 2}},
		{"one slot is left, the others worn", beside(lineUp(100, 5, ones...), worn(impl.MaxSlots-1)...), []int{1}},
		{"no slot is left", beside(lineUp(100, 5, ones...), flyMany(impl.MaxSlots)...), nil},
		{"no slot is left, all worn", beside(lineUp(100, 5, ones...), worn(impl.MaxSlots)...), nil},
		{"free and worn slots between", beside(lineUp(100, 2, ones...), freeSlot(3), freeSlot(impl.MaxGen), usedSlot(1, 30, 9, 40), freeSlot(2)), []int{1, 2, 4}},
	} {
		checkDispatch(t, c.name, c.a, c.ids)
	}
}

// As many as there is room for: none, one, as many as wait, one more and one less than that.
func TestDispatchByRoomAndNumber(t *testing.T) {
	for _, flying := range []int{0, 1, 5} {
		for count := range 8 {
			for room := range 10 {
				a := lineUp(max(1, flying+room), 3, waitMany(count)...)
				a = beside(a, flyMany(flying)...)
				var ids []int
				for tier := range 4 {
					ids = append(ids, idsOf(impl.OfTier(a.Q, tier))...)
				}
				checkDispatch(t, fmt.Sprintf("%d fly, %d wait, room for %d", flying, count, room), a, ids[:min(count, impl.Room(a))])
			}
		}
	}
}

// A full queue, with no room, with room for all, and around that; more can't go than there are slots.
func TestDispatchOfAFullQueue(t *testing.T) {
	full := waitMany(impl.MaxRoom)
	var ids []int
	for tier := range 4 {
		ids = append(ids, idsOf(impl.OfTier(queueOf(impl.MaxRoom, full...), tier))...)
	}
	for _, flying := range []int{0, 1, 9, 10, 11, 12, 59, 60} {
		for _, room := range []int{0, 1, 2, 48, 49, 50, 51, 60, 900} {
			a := beside(lineUp(max(1, flying+room), 1, full...), flyMany(flying)...)
			count := min(impl.Room(a), impl.MaxRoom, impl.MaxSlots-flying)
			checkDispatch(t, fmt.Sprintf("%d fly, room for %d", flying, room), a, ids[:count])
		}
	}
	one := slices.Clone(full)
	for i := range one {
		one[i].Client = 7
	}
	for _, most := range []int{1, 2, 49, 50, 51, 60} {
		checkDispatch(t, fmt.Sprintf("all of one client, a cap of %d", most), lineUp(impl.MaxLimit, most, one...), ids[:min(most, len(ids))])
	}
	small := queueOf(3, full[:3]...)
	for limit := 1; limit < 6; limit++ {
		a := admWith(lineUp(limit, 3, full[:3]...), func(a *impl.Adm) { a.Cfg.Room, a.Q = 3, small })
		checkDispatch(t, fmt.Sprintf("a queue of 3, for %d", limit), a, []int{1, 2, 3}[:min(limit, 3)])
	}
}

func TestDispatchWithoutRoomForAnybody(t *testing.T) {
	checkDispatch(t, "crowd", crowd(), nil)
	for _, limit := range []int{2, 20} {
		checkDispatch(t, "crowd", admWith(crowd(), func(a *impl.Adm) { a.Lim.Limit = limit }), nil)
	}
}

func checkNothingGoes(t *testing.T, name string, a impl.Adm) {
	t.Helper()
	if r, ok := impl.Next(a); ok || r != (impl.Req{}) {
		t.Errorf("%s: Next = %+v, %v, want nothing", name, r, ok)
	}
	if b, out, ok := impl.Through(a); ok || out != (impl.Out{}) || !sameAdm(b, impl.Adm{}) {
		t.Errorf("%s: Through = %+v, %+v, %v, want nothing", name, b, out, ok)
	}
	if b, outs := impl.Dispatch(a); len(outs) != 0 || !sameAdm(b, impl.Adm{}) {
		t.Errorf("%s: Dispatch = %+v, %+v, want nothing", name, b, outs)
	}
	if impl.Settled(a) {
		t.Errorf("%s: Settled says true", name)
	}
}

// goesByItsParts says whether somebody might go as far as the parts tell that are asked for it.
func goesByItsParts(a impl.Adm) bool {
	r, ok := impl.First(a.Q, impl.Clients(a.Led), a.Cfg.Cap)
	_, _, given := impl.Grant(a.Led, r.Id, r.Client, a.Now)
	return ok && given && impl.Room(a) > 0
}

// Of a machine that isn't right nobody goes, though somebody might by the parts that are asked.
func TestNobodyGoesInAWrongMachine(t *testing.T) {
	might := map[string]int{}
	for _, b := range brokenAdms() {
		checkNothingGoes(t, b.rule+", "+b.name, b.a)
		if goesByItsParts(b.a) {
			might[b.rule]++
		}
	}
	for _, rule := range admRules() {
		// a wrong ledger, queue or time is refused by these parts too
		if might[rule.name] == 0 && !slices.Contains([]string{"ledger", "queue", "now"}, rule.name) {
			t.Errorf("%s: in no machine of the test somebody might go", rule.name)
		}
	}
}

// Wrong in one thing, though nobody waits, or nobody could go in any case: not even the machine is told, and it isn't settled.
func TestWrongMachinesAreNotSettled(t *testing.T) {
	for name, c := range map[string]nextCase{
		"nobody waits": {a: lineUp(10, 3)},
		"no room":      {a: beside(lineUp(1, 3, waits(7, 1, 1)), flyMany(1)...)},
		"at the cap":   {a: beside(lineUp(10, 1, waits(7, 1, 1)), flies(30, 1, 1)...)},
	} {
		if !impl.Settled(c.a) {
			t.Errorf("%s: Settled says false", name)
		}
		for what, change := range map[string]func(*impl.Adm){
			"cfg":    func(a *impl.Adm) { a.Cfg.Start = 0 },
			"now":    func(a *impl.Adm) { a.Now = lastTime + 1 },
			"lim":    func(a *impl.Adm) { a.Lim.Good = -1 },
			"ledger": func(a *impl.Adm) { a.Led.Slots = append(a.Led.Slots, freeSlot(-1)) },
			"queue":  func(a *impl.Adm) { a.Q.Room-- },
			"codels": func(a *impl.Adm) { a.Slow = a.Slow[:3] },
			"bucket": func(a *impl.Adm) { a.Tries.At = 101 },
			"known":  func(a *impl.Adm) { a.Known = append(a.Known, 0) },
		} {
			checkNothingGoes(t, name+", wrong: "+what, admWith(c.a, change))
		}
	}
}

func wantNext(a impl.Adm) (impl.Req, bool) {
	r, ok := wantFirst(a.Q, wantClients(a.Led), a.Cfg.Cap)
	if !ok || wantRoom(a) == 0 || !wantAdmOk(a) {
		return impl.Req{}, false
	}
	if _, _, given := wantGrant(a.Led, r.Id, r.Client, a.Now); !given {
		return impl.Req{}, false
	}
	return r, true
}

func wantThrough(a impl.Adm) (impl.Adm, impl.Out, bool) {
	if !wantAdmOk(a) {
		return impl.Adm{}, impl.Out{}, false
	}
	r, ok := wantNext(a)
	if !ok {
		return a, impl.Out{}, false
	}
	a = copyAdm(a)
	var p impl.Permit
	a.Q, _, _ = wantPull(a.Q, r.Id)
	a.Led, p, _ = wantGrant(a.Led, r.Id, r.Client, a.Now)
	return a, impl.Out{Kind: impl.OuGrant, Req: r.Id, At: a.Now, P: p}, true
}

func wantDispatch(a impl.Adm) (impl.Adm, []impl.Out) {
	if !wantAdmOk(a) {
		return impl.Adm{}, nil
	}
	var outs []impl.Out
	for next, out, ok := wantThrough(a); ok; next, out, ok = wantThrough(a) {
		a, outs = next, append(outs, out)
	}
	return a, outs
}

// checkLetting holds all calls of the chapter against what the document says of them, and tells how many go.
func checkLetting(t *testing.T, name string, a impl.Adm) int {
	t.Helper()
	r, ok := impl.Next(a)
	if want, wantOk := wantNext(a); r != want || ok != wantOk {
		t.Fatalf("%s: Next(%+v) = %+v, %v, want %+v, %v", name, a, r, ok, want, wantOk)
	}
	if got, want := impl.Settled(a), wantAdmOk(a) && !ok; got != want {
		t.Fatalf("%s: Settled(%+v) = %v", name, a, got)
	}
	b, out, ok := impl.Through(a)
	if want, wantOut, wantOk := wantThrough(a); !sameAdm(b, want) || out != wantOut || ok != wantOk {
		t.Fatalf("%s: Through(%+v) = %+v, %+v, %v, want %+v, %+v, %v", name, a, b, out, ok, want, wantOut, wantOk)
	}
	b, outs := impl.Dispatch(a)
	if want, wantOuts := wantDispatch(a); !sameAdm(b, want) || !slices.Equal(outs, wantOuts) {
		t.Fatalf("%s: Dispatch(%+v) = %+v, %+v, want %+v, %+v", name, a, b, outs, want, wantOuts)
	}
	if wantAdmOk(a) {
		checkLetThrough(t, name, a, b, outs)
		checkNobodyLeft(t, name, b)
	}
	return len(outs)
}

func TestRightMachinesLetThrough(t *testing.T) {
	for name, a := range rightAdms() {
		checkLetting(t, name, a)
	}
	for _, c := range nextCases() {
		checkLetting(t, c.name, c.a)
	}
}

// smallLists are all lists of up to three that wait, of two tiers and two clients.
func smallLists() [][]impl.Req {
	lists := [][]impl.Req{nil}
	for from := 0; from < len(lists); from++ {
		for kind := range 4 {
			if l := lists[from]; len(l) < 3 {
				lists = append(lists, append(slices.Clone(l), waits(5-len(l), kind/2, kind%2)))
			}
		}
	}
	return lists
}

// P3, P10: every small list of those that wait, beside every small number of those that fly of both clients, at every cap and limit near these.
func TestEverySmallMachine(t *testing.T) {
	went := map[int]int{}
	for _, l := range smallLists() {
		for most := 1; most <= 3; most++ {
			for flying := range (most + 1) * (most + 1) {
				slots := append(flies(30, flying%(most+1), 0), flies(40, flying/(most+1), 1)...)
				for limit := max(1, len(slots)-1); limit <= len(slots)+4; limit++ {
					a := beside(lineUp(limit, most, l...), slots...)
					went[checkLetting(t, fmt.Sprintf("%d wait, %d fly", len(l), len(slots)), a)]++
				}
			}
		}
	}
	for count := range 4 {
		if went[count] < 200 {
			t.Errorf("%d went %d times", count, went[count])
		}
	}
}

// Every number of a machine, wherever it stands, at every edge, the ends of int among them, all others right.
func TestLettingThroughAtTheEdgesOfEveryNumber(t *testing.T) {
	bases := map[string]impl.Adm{
		"busy": busyAdm(),
		"one":  beside(lineUp(3, 2, waits(9, 3, 1), waits(8, 1, 1), waits(4, 1, 7)), usedSlot(1, 21, 1, 50), freeSlot(3)),
	}
	for name, base := range bases {
		for place := range settersOf(&base) {
			for _, n := range tellingInts() {
				a := copyAdm(base)
				one := settersOf(&a)[place]
				one.set(n)
				checkLetting(t, fmt.Sprintf("%s, %s is %d", name, one.name, n), a)
			}
		}
	}
}

// someLineUp is any right machine in which a few clients crowd, with a limit near those that fly.
func someLineUp(r *rand.Rand) impl.Adm {
	count := r.Intn(8)
	if r.Intn(4) == 0 {
		count = r.Intn(impl.MaxRoom + 1)
	}
	clients := 1 + r.Intn(6)
	var reqs []impl.Req
	for _, id := range r.Perm(200)[:count] {
		reqs = append(reqs, impl.Req{Id: 1 + id, Tier: r.Intn(4), Client: r.Intn(clients), Came: 97 + r.Intn(4), Deadline: r.Intn(2) * r.Intn(300), Try: r.Intn(3)})
	}
	slices.SortStableFunc(reqs, func(x impl.Req, y impl.Req) int { return x.Came - y.Came })
	a := lineUp(1, 1+r.Intn(1+r.Intn(impl.MaxSlots)), reqs...)
	most := r.Intn(12)
	if r.Intn(3) == 0 {
		most = impl.MaxSlots - r.Intn(4)
	}
	a = beside(a, someSlots(r, most, clients, a.Cfg.Cap)...)
	a.Lim.Limit = max(1, impl.Flying(a.Led)-2+r.Intn(1+r.Intn(60)))
	return a
}

// someSlots are so many slots, some of them free, and some of these worn out.
func someSlots(r *rand.Rand, count int, clients int, most int) []impl.Slot {
	var slots []impl.Slot
	free := r.Intn(5)
	for i := range count {
		client := r.Intn(clients)
		if r.Intn(2) == 0 {
			client = 500 + i
		}
		s := usedSlot(r.Intn(3), 500+i, client, r.Intn(101))
		if r.Intn(5) < free || flyingIn(slots, client) >= most {
			s = freeSlot([]int{0, 3, impl.MaxGen - 1, impl.MaxGen, impl.MaxGen}[r.Intn(5)])
		}
		slots = append(slots, s)
	}
	return slots
}

// P3, P10: machines of all kinds, some of them spoilt by one thing.
func TestLettingThroughEverywhere(t *testing.T) {
	r := rand.New(rand.NewSource(101))
	met := map[string]int{}
	for round := range 3000 {
		a := someLineUp(r)
		if round%8 == 0 {
			spoil(r, &a)
		} else if !impl.AdmOk(a) {
			t.Fatalf("the test makes a wrong machine: %q", brokenRules(a))
		}
		outs := checkLetting(t, "somewhere", a)
		b, _ := impl.Dispatch(a)
		switch {
		case !impl.AdmOk(a):
			met["wrong"]++
		case outs == 0 && len(a.Q.Reqs) > 0:
			met["none of those that wait"]++
		case outs > 1 && impl.Room(b) == 0 && len(b.Q.Reqs) > 0:
			met["up to the limit"]++
		case outs > 1 && impl.Room(b) > 0 && len(b.Q.Reqs) > 0:
			met["up to caps or slots"]++
		case outs > 1:
			met["all"]++
		}
		if t.Failed() {
			return
		}
	}
	for _, kind := range []string{"wrong", "none of those that wait", "up to the limit", "up to caps or slots", "all"} {
		if met[kind] < 100 {
			t.Errorf("the test met %d machines of the kind: %s", met[kind], kind)
		}
	}
}

// P10: machines with numbers from all over their ranges.
func TestLettingThroughInMachinesFromAllOver(t *testing.T) {
	r := rand.New(rand.NewSource(102))
	went := 0
	for range 400 {
		a := someRight(r)
		went += checkLetting(t, "from all over", a)
		if t.Failed() {
			return
		}
	}
	if went < 400 {
		t.Errorf("%d went", went)
	}
}

// Dispatch is Through as long as it says true, and Through is what Next tells.
func TestDispatchIsThroughAgainAndAgain(t *testing.T) {
	r := rand.New(rand.NewSource(103))
	for range 300 {
		a := someLineUp(r)
		b, outs := impl.Dispatch(a)
		step, count := a, 0
		for !impl.Settled(step) {
			r, _ := impl.Next(step)
			next, out, ok := impl.Through(step)
			if !ok || out.Req != r.Id || count >= len(outs) || out != outs[count] {
				t.Fatalf("step %d of %+v: Next tells %+v, Through %+v, %v, Dispatch %+v", count, a, r, out, ok, outs)
			}
			if impl.Room(next) != impl.Room(step)-1 || impl.Flying(next.Led) != impl.Flying(step.Led)+1 {
				t.Fatalf("step %d of %+v: there is room for %d, then for %d", count, a, impl.Room(step), impl.Room(next))
			}
			step, count = next, count+1
		}
		if count != len(outs) || !sameAdm(step, b) {
			t.Fatalf("%+v: by steps %d go and it comes to %+v, by Dispatch %d and %+v", a, count, step, len(outs), b)
		}
	}
}

// P1, P2, P3 as far as this chapter goes: where some come and some come back, and Dispatch follows each, the machine stays right and nobody is left who may go; where one comes back no more than one goes.
func TestDispatchBehindEachMove(t *testing.T) {
	went, waited := 0, 0
	for seed := range 30 {
		x := moved{r: rand.New(rand.NewSource(int64(seed)))}
		x.a, _ = impl.AdmNew(plainWith(func(c *impl.Cfg) { c.Cap, c.Tiers, c.Room, c.Start = 1+seed%3, 1+seed%4, 3+seed%9, 2+seed%5 }))
		for step := range 200 {
			x.a.Now += x.r.Intn(20)
			limit := x.a.Lim.Limit
			if x.r.Intn(3) == 0 {
				x.back()
			} else {
				x.come()
			}
			before := x.a
			next, outs := impl.Dispatch(x.a)
			x.a = next
			if len(outs) > 1+max(0, before.Lim.Limit-limit) {
				t.Fatalf("run %d, step %d: %+v go at once", seed, step, outs)
			}
			checkLetThrough(t, fmt.Sprintf("run %d, step %d", seed, step), before, x.a, outs)
			checkNobodyLeft(t, fmt.Sprintf("run %d, step %d", seed, step), x.a)
			if t.Failed() {
				return
			}
			went, waited = went+len(outs), waited+len(x.a.Q.Reqs)
		}
	}
	if went < 1000 || waited < 3000 {
		t.Errorf("%d went, and %d waited", went, waited)
	}
}

// passCalls are the calls that answer a machine.
func passCalls() map[string]func(impl.Adm) impl.Adm {
	return map[string]func(impl.Adm) impl.Adm{
		"Through": func(a impl.Adm) impl.Adm {
			b, _, _ := impl.Through(a)
			return b
		},
		"Dispatch": func(a impl.Adm) impl.Adm {
			b, _ := impl.Dispatch(a)
			return b
		},
	}
}

// overwrite writes junk over all that the lists of a machine reach.
func overwrite(a impl.Adm) {
	scrawl(a.Lim.Win.Items, impl.Sample{At: 77, Lat: 77})
	scrawl(a.Led.Slots, usedSlot(77, 77, 77, 77))
	scrawl(a.Q.Reqs, keyed(77, 77, 77))
	scrawl(a.Slow, codelWith(slowCodel(77), func(d *impl.Codel) { d.Target = 77 }))
	scrawl(a.Known, 77)
}

func scrawl[T any](l []T, junk T) {
	whole := l[:cap(l)]
	for i := range whole {
		whole[i] = junk
	}
}

// checkOwnMachine asks that a call neither changes the machine that it is given nor answers a list of it, and that a second call answers alike.
func checkOwnMachine(t *testing.T, name string, g impl.Adm, call func(impl.Adm) impl.Adm) {
	t.Helper()
	a := withRoomBehind(g)
	whole := wholeLists(a)
	answer, again := call(a), call(a)
	kept := copyAdm(again)
	if !sameAdm(a, g) || !reflect.DeepEqual(wholeLists(a), whole) {
		t.Errorf("%s: changed its argument", name)
	}
	if !sameAdm(answer, again) || !sameAdm(call(copyAdm(g)), kept) {
		t.Errorf("%s: a second call answers something else", name)
	}
	overwrite(answer)
	if !reflect.DeepEqual(wholeLists(a), whole) || !sameAdm(again, kept) {
		t.Errorf("%s: a write into its answer shows elsewhere", name)
	}
	overwrite(a)
	if !sameAdm(again, kept) {
		t.Errorf("%s: its answer changes with the argument", name)
	}
}

// givenToPass are machines in which some go, in which nobody does, and wrong ones.
func givenToPass() map[string]impl.Adm {
	given := rightAdms()
	for _, c := range nextCases() {
		given[c.name] = c.a
	}
	for _, b := range brokenAdms() {
		given["wrong: "+b.rule+", "+b.name] = b.a
	}
	return given
}

// Chapter 1: no argument is changed, no answer shares memory with one, and what a call answers hangs on its arguments alone.
func TestLettingThroughSharesNoMemory(t *testing.T) {
	for name, g := range givenToPass() {
		for what, call := range passCalls() {
			checkOwnMachine(t, name+": "+what, g, call)
		}
		a := withRoomBehind(g)
		whole := wholeLists(a)
		impl.Next(a)
		impl.Settled(a)
		if !sameAdm(a, g) || !reflect.DeepEqual(wholeLists(a), whole) {
			t.Errorf("%s: Next or Settled changed its argument", name)
		}
	}
}

func TestOutsShareNoMemory(t *testing.T) {
	for name, g := range givenToPass() {
		a := copyAdm(g)
		b, outs := impl.Dispatch(a)
		_, again := impl.Dispatch(a)
		kept, keptOuts := copyAdm(b), slices.Clone(again)
		scrawl(outs, grantOut(77, 77, 7, 7))
		if !slices.Equal(again, keptOuts) || !sameAdm(b, kept) || !sameAdm(a, g) {
			t.Errorf("%s: a write into the outs shows elsewhere", name)
		}
		overwrite(b)
		overwrite(a)
		if !slices.Equal(again, keptOuts) {
			t.Errorf("%s: the outs change with a machine", name)
		}
	}
}

// Chapter 1: a list without elements and nil are the same.
func TestLettingThroughWithEmptyLists(t *testing.T) {
	for name, a := range rightAdms() {
		emptied := withEmptyLists(a)
		b, outs := impl.Dispatch(a)
		c, others := impl.Dispatch(emptied)
		if !sameAdm(b, c) || !slices.Equal(outs, others) || impl.Settled(a) != impl.Settled(emptied) {
			t.Errorf("%s: with empty lists for nil it answers something else", name)
		}
	}
}

// Chapter 1: called again and again, and by many at once, a call answers alike.
func TestLettingThroughKeepsNothing(t *testing.T) {
	given := []impl.Adm{busyAdm(), crowd(), {}, lineUp(10, 2, mixedQueue().Reqs...), beside(lineUp(2, 1, waitMany(5)...), flyMany(1)...)}
	var all sync.WaitGroup
	for range 4 {
		all.Go(func() {
			for range 50 {
				for i, a := range given {
					b, outs := impl.Dispatch(a)
					want, wantOuts := wantDispatch(a)
					if !sameAdm(b, want) || !slices.Equal(outs, wantOuts) {
						t.Errorf("machine %d: Dispatch differs from call to call", i)
					}
					r, ok := impl.Next(a)
					wantR, wantOk := wantNext(a)
					c, out, _ := impl.Through(a)
					wantC, wantOut, _ := wantThrough(a)
					if r != wantR || ok != wantOk || !sameAdm(c, wantC) || out != wantOut {
						t.Errorf("machine %d: Next or Through differs from call to call", i)
					}
				}
			}
		})
	}
	all.Wait()
}
