package tests

import (
	"fmt"
	"math/rand"
	"slices"
	"sync"
	"testing"

	"loop.example/g00685/impl"
)

func queueOf(room int, reqs ...impl.Req) impl.Queue { return impl.Queue{Room: room, Reqs: reqs} }

func copyQueue(q impl.Queue) impl.Queue { return queueOf(q.Room, slices.Clone(q.Reqs)...) }

// sameQueue takes a list without elements and nil as the same.
func sameQueue(a impl.Queue, b impl.Queue) bool {
	return a.Room == b.Room && slices.Equal(a.Reqs, b.Reqs)
}

func isNothing(q impl.Queue) bool { return sameQueue(q, impl.Queue{}) }

// idsOf tells a list of requests shortly.
func idsOf(reqs []impl.Req) []int {
	ids := []int{}
	for _, r := range reqs {
		ids = append(ids, r.Id)
	}
	return ids
}

// longQueue has so many requests, the Ids 1, 2, 3 .. in order, of all tiers and some clients, two each with the same Came.
func longQueue(room int, count int) impl.Queue {
	q := queueOf(room)
	for i := range count {
		came := 40 + i/2
		q.Reqs = append(q.Reqs, impl.Req{Id: i + 1, Tier: (i * 7) % 4, Client: i % 5, Deadline: (i % 3) * (came + 9), Came: came, Try: i % 21})
	}
	return q
}

// queueWith is a copy of a queue in which the request at one place is another.
func queueWith(q impl.Queue, place int, r impl.Req) impl.Queue {
	q = copyQueue(q)
	q.Reqs[place] = r
	return q
}

// mixedQueue has three of tier 2, two of tier 0 and one of tier 3, none of tier 1, with one place left; neighbours of the same Came don't stand by their Ids.
func mixedQueue() impl.Queue {
	return queueOf(7,
		impl.Req{Id: 9, Tier: 2, Client: 5, Came: 10},
		impl.Req{Id: 4, Tier: 2, Client: 6, Came: 10, Deadline: 60},
		impl.Req{Id: 8, Tier: 0, Client: 6, Came: 20},
		impl.Req{Id: 3, Tier: 3, Client: 0, Came: 20, Deadline: 61},
		impl.Req{Id: 7, Tier: 0, Client: 5, Came: 20, Deadline: 59},
		impl.Req{Id: 5, Tier: 2, Client: 7, Came: 30},
	)
}

// rightQueues are queues at the edges of what QueueOk allows.
func rightQueues() map[string]impl.Queue {
	right := map[string]impl.Queue{
		"room 0":                     {},
		"room 0, an empty list":      queueOf(0, []impl.Req{}...),
		"room 1, empty":              queueOf(1),
		"room 1, full":               queueOf(1, ordinaryReq()),
		"room 2, one":                queueOf(2, ordinaryReq()),
		"MaxRoom, empty":             queueOf(impl.MaxRoom),
		"MaxRoom, one":               queueOf(impl.MaxRoom, ordinaryReq()),
		"MaxRoom, one less":          longQueue(impl.MaxRoom, impl.MaxRoom-1),
		"MaxRoom, full":              longQueue(impl.MaxRoom, impl.MaxRoom),
		"mixed":                      mixedQueue(),
		"mixed, full":                queueOf(6, mixedQueue().Reqs...),
		"all came at once":           queueOf(3, keyed(1, 40, 9), keyed(1, 40, 7), keyed(1, 40, 8)),
		"all came at 0":              queueOf(3, keyed(1, 0, 9), keyed(0, 0, 7), keyed(3, 0, 8)),
		"all came at MaxTime":        queueOf(3, keyed(1, impl.MaxTime, 9), keyed(0, impl.MaxTime, 7)),
		"came from end to end":       queueOf(3, keyed(1, 0, 9), keyed(1, impl.MaxTime, 7)),
		"alike but for the id":       queueOf(2, reqWith(func(r *impl.Req) { r.Id = 8 }), ordinaryReq()),
		"ids from end to end":        queueOf(2, keyed(1, 40, impl.MaxId), keyed(1, 40, 1)),
		"deadlines that fall":        queueOf(2, impl.Req{Id: 1, Deadline: 90}, impl.Req{Id: 2, Deadline: 80}),
		"deadlines ahead of came":    queueOf(2, impl.Req{Id: 1, Came: 90, Deadline: 80}, impl.Req{Id: 2, Came: 95, Deadline: 1}),
		"the least and the greatest": queueOf(2, impl.Req{Id: 1}, greatestReq()),
	}
	for name, r := range rightReqs() {
		right["one: "+name] = queueOf(2, r)
	}
	return right
}

// wrongQueues are queues of which QueueOk is false, each by one thing.
func wrongQueues() map[string]impl.Queue {
	a, b, c := keyed(1, 30, 1), keyed(2, 40, 2), keyed(0, 50, 3)
	twice := keyed(3, 60, 1)
	wrong := map[string]impl.Queue{
		"room -1":                   queueOf(-1),
		"room -1, one":              queueOf(-1, a),
		"room one too many":         queueOf(impl.MaxRoom + 1),
		"room one too many, one":    queueOf(impl.MaxRoom+1, a),
		"room one too many, full":   longQueue(impl.MaxRoom+1, impl.MaxRoom+1),
		"the least room":            queueOf(minInt),
		"the greatest room":         queueOf(impl.MaxInt),
		"the greatest room, full":   longQueue(impl.MaxInt, impl.MaxRoom),
		"room 0, one":               queueOf(0, a),
		"room 1, two":               queueOf(1, a, b),
		"room 2, three":             queueOf(2, a, b, c),
		"MaxRoom, one more":         longQueue(impl.MaxRoom, impl.MaxRoom+1),
		"MaxRoom, far more":         longQueue(impl.MaxRoom, 20*impl.MaxRoom),
		"the same side by side":     queueOf(5, a, a),
		"the same id side by side":  queueOf(5, a, twice, twice),
		"the same id apart":         queueOf(5, a, b, c, twice),
		"the same id, last two":     queueOf(5, b, c, reqWith(func(r *impl.Req) { r.Id, r.Came = 3, 50 })),
		"the same id from the ends": queueWith(longQueue(50, 50), 49, impl.Req{Id: 1, Came: 64}),
		"came falls at once":        queueOf(5, b, a),
		"came falls by one":         queueOf(5, keyed(1, 40, 7), keyed(1, 39, 8)),
		"came falls at the end":     queueOf(5, a, b, c, keyed(1, 49, 8)),
		"came falls in the midst":   queueOf(5, a, c, b, keyed(1, 90, 8)),
		"came falls to 0":           queueOf(5, keyed(1, impl.MaxTime, 7), keyed(1, 0, 8)),
	}
	for name, r := range wrongReqs() {
		wrong["alone: "+name] = queueOf(5, r)
		wrong["first: "+name] = queueOf(5, r, keyed(1, 40, 8), keyed(2, 41, 9))
		wrong["in the midst: "+name] = queueOf(5, keyed(1, 40, 8), r, keyed(2, 41, 9))
		wrong["last: "+name] = queueOf(5, keyed(1, 40, 8), keyed(2, 40, 9), r)
	}
	return wrong
}

func TestQueueConstants(t *testing.T) {
	if impl.MaxRoom != 50 {
		t.Error("MaxRoom isn't what the document says")
	}
}

func TestQueueOk(t *testing.T) {
	for name, q := range rightQueues() {
		if !impl.QueueOk(q) {
			t.Errorf("%s: QueueOk says false", name)
		}
	}
	for name, q := range wrongQueues() {
		if impl.QueueOk(q) {
			t.Errorf("%s: QueueOk says true", name)
		}
	}
}

func TestQueueOkByRoomAndLength(t *testing.T) {
	for _, room := range []int{minInt, -1, 0, 1, 2, 49, 50, 51, 52, impl.MaxInt} {
		for count := range 2*impl.MaxRoom + 1 {
			want := 0 <= room && room <= 50 && count <= room
			if got := impl.QueueOk(longQueue(room, count)); got != want {
				t.Errorf("room %d and %d requests: QueueOk says %v", room, count, got)
			}
		}
	}
}

func TestQueueOkLooksAtEveryRequest(t *testing.T) {
	for place := range impl.MaxRoom {
		for name, r := range wrongReqs() {
			if impl.QueueOk(queueWith(longQueue(impl.MaxRoom, impl.MaxRoom), place, r)) {
				t.Errorf("%s at place %d: QueueOk says true", name, place)
			}
		}
	}
}

func TestQueueOkLooksAtEveryPair(t *testing.T) {
	for a := range impl.MaxRoom {
		for b := range impl.MaxRoom {
			q := longQueue(impl.MaxRoom, impl.MaxRoom)
			q.Reqs[a].Id = q.Reqs[b].Id
			if got := impl.QueueOk(q); got != (a == b) {
				t.Errorf("the Ids at %d and %d are alike: QueueOk says %v", a, b, got)
			}
		}
	}
}

func TestQueueOkLooksAtEveryNeighbour(t *testing.T) {
	for place := range impl.MaxRoom - 1 {
		for _, step := range []int{-2, -1, 0, 1} {
			q := longQueue(impl.MaxRoom, impl.MaxRoom)
			for i := range q.Reqs {
				q.Reqs[i].Came = 100
				if i > place {
					q.Reqs[i].Came += step
				}
			}
			if got := impl.QueueOk(q); got != (step >= 0) {
				t.Errorf("Came steps by %d behind place %d: QueueOk says %v", step, place, got)
			}
		}
	}
}

// wantQueueOk and the other functions that begin so say what the document says, in the plainest way.
func wantQueueOk(q impl.Queue) bool {
	if q.Room < 0 || q.Room > 50 || len(q.Reqs) > q.Room {
		return false
	}
	seen := map[int]int{}
	last := 0
	for _, r := range q.Reqs {
		seen[r.Id]++
		if !wantReqOk(r) || seen[r.Id] > 1 || r.Came < last {
			return false
		}
		last = r.Came
	}
	return true
}

func TestQueueNew(t *testing.T) {
	for _, room := range []int{0, 1, 2, 49, 50} {
		q, ok := impl.QueueNew(room)
		if !ok || !sameQueue(q, queueOf(room)) || !impl.QueueOk(q) {
			t.Errorf("QueueNew(%d) = %+v, %v", room, q, ok)
		}
	}
	for _, room := range []int{minInt, minInt + 1, -50, -1, 51, 52, impl.MaxNum, impl.MaxInt} {
		if q, ok := impl.QueueNew(room); ok || !isNothing(q) {
			t.Errorf("QueueNew(%d) = %+v, %v, want nothing and false", room, q, ok)
		}
	}
}

// checkOffered asks that r comes in and that the one named goes (0: nobody); the others stay in their order, r behind them.
func checkOffered(t *testing.T, name string, q impl.Queue, r impl.Req, goes int) {
	t.Helper()
	want := queueOf(q.Room)
	var wantGone impl.Req
	for _, o := range append(slices.Clone(q.Reqs), r) {
		if o.Id == goes {
			wantGone = o
		} else {
			want.Reqs = append(want.Reqs, o)
		}
	}
	got, gone, ok := impl.Offer(q, r)
	if !ok || gone != wantGone || !sameQueue(got, want) {
		t.Errorf("%s: Offer of %+v = %v, %+v, %v, want %v, and %d goes", name, r, idsOf(got.Reqs), gone, ok, idsOf(want.Reqs), goes)
	}
	if !impl.QueueOk(got) {
		t.Errorf("%s: Offer of %+v makes a wrong queue", name, r)
	}
}

func checkNotOffered(t *testing.T, name string, q impl.Queue, r impl.Req) {
	t.Helper()
	if got, gone, ok := impl.Offer(q, r); ok || gone != (impl.Req{}) || !isNothing(got) {
		t.Errorf("%s: Offer of %+v = %+v, %+v, %v, want nothing and false", name, r, got, gone, ok)
	}
}

func TestOfferWhereThereIsRoom(t *testing.T) {
	checkOffered(t, "empty", queueOf(1), ordinaryReq(), 0)
	checkOffered(t, "empty, MaxRoom", queueOf(impl.MaxRoom), greatestReq(), 0)
	checkOffered(t, "an empty list", queueOf(2, []impl.Req{}...), impl.Req{Id: 1}, 0)
	checkOffered(t, "one place left of two", queueOf(2, keyed(0, 40, 7)), keyed(3, 90, 8), 0)
	checkOffered(t, "one place left, r better", mixedQueue(), keyed(0, 30, 1), 0)
	checkOffered(t, "one place left, r worse", mixedQueue(), keyed(3, 99, 99), 0)
	checkOffered(t, "one place left of all", longQueue(50, 49), keyed(3, 200, 99), 0)
	checkOffered(t, "came at the same time", queueOf(2, keyed(1, 40, 7)), keyed(1, 40, 6), 0)
	checkOffered(t, "came one later", queueOf(2, keyed(1, 40, 7)), keyed(1, 41, 6), 0)
	checkOffered(t, "came at the end of time", queueOf(2, keyed(1, impl.MaxTime, 7)), keyed(1, impl.MaxTime, 6), 0)
	for name, r := range rightReqs() {
		checkOffered(t, "empty: "+name, queueOf(1), r, 0)
	}
}

func TestOfferWithoutRoom(t *testing.T) {
	for name, r := range rightReqs() {
		checkOffered(t, "room 0: "+name, queueOf(0), r, r.Id)
	}
	checkOffered(t, "room 0, an empty list", queueOf(0, []impl.Req{}...), ordinaryReq(), 7)
	a, b, c := keyed(1, 30, 1), keyed(1, 40, 2), keyed(1, 50, 3)
	full := queueOf(3, a, b, c)
	for _, x := range []struct {
		name string
		q    impl.Queue
		r    impl.Req
		goes int
	}{
		{"r worse than all by its tier", full, keyed(2, 50, 9), 9},
		{"r worse than all by its tier, against came and id", queueOf(2, keyed(0, 50, 8), keyed(1, 50, 9)), keyed(2, 50, 1), 1},
		{"r worse than all by when it came", full, keyed(1, 51, 9), 9},
		{"r worse than all by when it came, against the id", queueOf(1, keyed(1, 50, 9)), keyed(1, 51, 1), 1},
		{"r worse than all by its id", full, keyed(1, 50, 4), 4},
		{"r better than all", full, keyed(0, 50, 9), 3},
		{"r better than all, and latest", full, keyed(0, impl.MaxTime, 9), 3},
		{"a tie in the tier: the later one goes", queueOf(2, keyed(0, 30, 1), keyed(2, 40, 9)), keyed(2, 41, 3), 3},
		{"a tie in tier and came: r has the lesser id", queueOf(2, keyed(0, 30, 1), keyed(2, 40, 9)), keyed(2, 40, 3), 9},
		{"a tie in tier and came: r has the greater id", queueOf(2, keyed(0, 30, 1), keyed(2, 40, 3)), keyed(2, 40, 9), 9},
		{"a tie in tier and came of three", queueOf(2, keyed(2, 40, 9), keyed(2, 40, 3)), keyed(2, 40, 5), 9},
		{"a tie with one that isn't the worst", queueOf(2, keyed(3, 30, 1), keyed(2, 40, 3)), keyed(2, 40, 9), 1},
		{"the worst at the front", queueOf(3, keyed(3, 30, 1), keyed(0, 40, 2), keyed(1, 50, 3)), keyed(2, 60, 4), 1},
		{"the worst in the midst", queueOf(3, keyed(1, 30, 1), keyed(3, 40, 2), keyed(2, 50, 3)), keyed(2, 60, 4), 2},
		{"the worst at the end", queueOf(3, keyed(1, 30, 1), keyed(0, 40, 2), keyed(3, 50, 3)), keyed(2, 60, 4), 3},
		{"two of the worst tier, the later goes", queueOf(3, keyed(3, 30, 9), keyed(3, 40, 2), keyed(0, 50, 3)), keyed(2, 60, 4), 2},
		{"two of the worst tier at once, the front has the greater id", queueOf(3, keyed(3, 30, 9), keyed(3, 30, 2), keyed(0, 50, 3)), keyed(2, 60, 4), 9},
		{"two of the worst tier at once, the next has the greater id", queueOf(3, keyed(3, 30, 2), keyed(3, 30, 9), keyed(0, 50, 3)), keyed(2, 60, 4), 9},
		{"room 1, r better", queueOf(1, keyed(3, 30, 1)), keyed(2, 60, 4), 1},
		{"room 1, r worse", queueOf(1, keyed(2, 30, 1)), keyed(3, 60, 4), 4},
		{"mixed", queueOf(6, mixedQueue().Reqs...), keyed(2, 31, 1), 3},
		{"mixed, r of the least critical tier", queueOf(6, mixedQueue().Reqs...), keyed(3, 30, 1), 1},
		{"the greatest into one of the least", queueOf(1, impl.Req{Id: 1}), greatestReq(), impl.MaxId},
		{"all that there may be", longQueue(50, 50), keyed(0, 100, 99), 50},
		{"all that there may be, r worst", longQueue(50, 50), keyed(3, 100, 99), 99},
	} {
		checkOffered(t, x.name, x.q, x.r, x.goes)
	}
}

// The worst goes wherever it stands in a queue of all lengths.
func TestOfferFindsTheWorstAtEveryPlace(t *testing.T) {
	for count := 1; count <= impl.MaxRoom; count++ {
		for place := range count {
			q := queueOf(count)
			for i := range count {
				q.Reqs = append(q.Reqs, keyed(1, 40, i+1))
			}
			q.Reqs[place].Tier = 2
			checkOffered(t, fmt.Sprintf("tier, place %d of %d", place, count), q, keyed(1, 90, 99), place+1)
			q.Reqs[place].Tier, q.Reqs[place].Id = 1, 1000
			checkOffered(t, fmt.Sprintf("id, place %d of %d", place, count), q, keyed(1, 40, 99), 1000)
			checkOffered(t, fmt.Sprintf("r, place %d of %d", place, count), q, keyed(1, 41, 99), 99)
		}
	}
}

func TestOfferIsRefused(t *testing.T) {
	for name, q := range rightQueues() {
		for _, r := range q.Reqs {
			checkNotOffered(t, name+": it is in", q, r)
			other := impl.Req{Id: r.Id, Tier: 3 - r.Tier, Client: 9, Came: impl.MaxTime}
			checkNotOffered(t, name+": its id is in", q, other)
		}
		if len(q.Reqs) > 0 {
			last := q.Reqs[len(q.Reqs)-1].Came
			for _, came := range []int{minInt, -1, 0, last - 1} {
				if came < last {
					checkNotOffered(t, name+": came below the last one", q, keyed(1, came, 900000))
				}
			}
		}
		for what, r := range wrongReqs() {
			checkNotOffered(t, name+": "+what, q, r)
		}
	}
	for name, q := range wrongQueues() {
		checkNotOffered(t, name, q, keyed(1, impl.MaxTime, 900000))
		checkNotOffered(t, name, q, keyed(1, 0, 900000))
		checkNotOffered(t, name, q, impl.Req{})
	}
}

// wantOffer finds the worst by asking each of all whether it is Worse than all others.
func wantOffer(q impl.Queue, r impl.Req) (impl.Queue, impl.Req, bool) {
	all := append(slices.Clone(q.Reqs), r)
	if !wantQueueOk(q) || !wantReqOk(r) || slices.Contains(idsOf(q.Reqs), r.Id) {
		return impl.Queue{}, impl.Req{}, false
	}
	if n := len(q.Reqs); n > 0 && r.Came < q.Reqs[n-1].Came {
		return impl.Queue{}, impl.Req{}, false
	}
	if len(all) <= q.Room {
		return queueOf(q.Room, all...), impl.Req{}, true
	}
	for i, a := range all {
		worst := true
		for k, b := range all {
			worst = worst && (i == k || wantWorse(a, b))
		}
		if worst {
			return queueOf(q.Room, append(slices.Clone(all[:i]), all[i+1:]...)...), a, true
		}
	}
	panic("nobody is worse than all others")
}

func TestPull(t *testing.T) {
	m := mixedQueue()
	for place, r := range m.Reqs {
		got, out, ok := impl.Pull(m, r.Id)
		want := queueOf(7, slices.Concat(m.Reqs[:place], m.Reqs[place+1:])...)
		if !ok || out != r || !sameQueue(got, want) || !impl.QueueOk(got) {
			t.Errorf("Pull of %d = %v, %+v, %v", r.Id, idsOf(got.Reqs), out, ok)
		}
		again, out, ok := impl.Pull(got, r.Id)
		if ok || out != (impl.Req{}) || !sameQueue(again, want) {
			t.Errorf("Pull of %d once more = %v, %+v, %v", r.Id, idsOf(again.Reqs), out, ok)
		}
	}
	for name, q := range rightQueues() {
		for _, id := range []int{minInt, -1, 0, 2000, impl.MaxId - 3, impl.MaxId + 1, impl.MaxInt} {
			if got, out, ok := impl.Pull(q, id); ok || out != (impl.Req{}) || !sameQueue(got, q) {
				t.Errorf("%s: Pull of %d, which isn't there = %+v, %+v, %v, want the queue, nothing and false", name, id, got, out, ok)
			}
		}
	}
	one, out, ok := impl.Pull(queueOf(1, ordinaryReq()), 7)
	if !ok || out != ordinaryReq() || !sameQueue(one, queueOf(1)) {
		t.Errorf("Pull of the only one = %+v, %+v, %v", one, out, ok)
	}
}

func TestPullFromAWrongQueue(t *testing.T) {
	for name, q := range wrongQueues() {
		for _, id := range append(idsOf(q.Reqs), minInt, -1, 0, 1, 7, 9000, impl.MaxInt) {
			if got, out, ok := impl.Pull(q, id); ok || out != (impl.Req{}) || !isNothing(got) {
				t.Errorf("%s: Pull of %d = %+v, %+v, %v, want nothing and false", name, id, got, out, ok)
			}
		}
	}
}

func wantPull(q impl.Queue, id int) (impl.Queue, impl.Req, bool) {
	if !wantQueueOk(q) {
		return impl.Queue{}, impl.Req{}, false
	}
	left := queueOf(q.Room)
	var out impl.Req
	for _, r := range q.Reqs {
		if r.Id == id {
			out = r
		} else {
			left.Reqs = append(left.Reqs, r)
		}
	}
	return left, out, len(left.Reqs) < len(q.Reqs)
}

// oneTier has requests of a single tier, the first of them with the greatest Id.
func oneTier(tier int) impl.Queue {
	return queueOf(3, keyed(tier, 40, 9), keyed(tier, 40, 7), keyed(tier, 50, 8))
}

func TestOfTier(t *testing.T) {
	for _, c := range []struct {
		tier int
		want []int
	}{
		{0, []int{8, 7}}, {1, []int{}}, {2, []int{9, 4, 5}}, {3, []int{3}},
		{-1, []int{}}, {impl.MaxTiers, []int{}}, {minInt, []int{}}, {impl.MaxInt, []int{}},
	} {
		m := mixedQueue()
		got := impl.OfTier(m, c.tier)
		if !slices.Equal(idsOf(got), c.want) || !slices.Equal(got, wantOfTier(m, c.tier)) {
			t.Errorf("OfTier %d = %+v, want %v", c.tier, got, c.want)
		}
	}
	for tier := range impl.MaxTiers {
		for asked := -1; asked <= impl.MaxTiers; asked++ {
			got := impl.OfTier(oneTier(tier), asked)
			if asked == tier && !slices.Equal(got, oneTier(tier).Reqs) || asked != tier && len(got) != 0 {
				t.Errorf("OfTier %d of a queue of tier %d = %+v", asked, tier, got)
			}
		}
	}
	for name, q := range wrongQueues() {
		for _, tier := range []int{minInt, -1, 0, 1, 2, 3, 4, impl.MaxInt} {
			if got := impl.OfTier(q, tier); len(got) != 0 {
				t.Errorf("%s: OfTier %d = %+v, want nothing", name, tier, got)
			}
		}
	}
}

func wantOfTier(q impl.Queue, tier int) []impl.Req {
	var l []impl.Req
	right := wantQueueOk(q)
	for _, r := range q.Reqs {
		if right && r.Tier == tier {
			l = append(l, r)
		}
	}
	return l
}

func TestHeads(t *testing.T) {
	for name, c := range map[string]struct {
		q    impl.Queue
		want []int
	}{
		"room 0":                      {queueOf(0), []int{}},
		"empty":                       {queueOf(9), []int{}},
		"tier 0 alone":                {oneTier(0), []int{9}},
		"tier 1 alone":                {oneTier(1), []int{9}},
		"tier 3 alone":                {oneTier(3), []int{9}},
		"one of each, rising":         {queueOf(4, keyed(0, 1, 4), keyed(1, 1, 3), keyed(2, 1, 2), keyed(3, 1, 1)), []int{4, 3, 2, 1}},
		"one of each, falling":        {queueOf(4, keyed(3, 1, 4), keyed(2, 1, 3), keyed(1, 1, 2), keyed(0, 1, 1)), []int{1, 2, 3, 4}},
		"one of each, mixed":          {queueOf(4, keyed(2, 1, 4), keyed(0, 1, 3), keyed(3, 1, 2), keyed(1, 1, 1)), []int{3, 1, 4, 2}},
		"mixed, none of tier 1":       {mixedQueue(), []int{8, 9, 3}},
		"several, the ends":           {queueOf(9, keyed(3, 1, 4), keyed(0, 1, 3), keyed(3, 2, 2), keyed(0, 2, 1)), []int{3, 4}},
		"came alike, not by their id": {queueOf(9, keyed(1, 5, 8), keyed(1, 5, 2), keyed(0, 5, 9), keyed(0, 5, 1)), []int{9, 8}},
		"all that there may be":       {longQueue(50, 50), []int{1, 4, 3, 2}},
	} {
		got := impl.Heads(c.q)
		if !slices.Equal(idsOf(got), c.want) || !slices.Equal(got, wantHeads(c.q)) {
			t.Errorf("%s: Heads = %+v, want %v", name, got, c.want)
		}
	}
	for name, q := range wrongQueues() {
		if got := impl.Heads(q); len(got) != 0 {
			t.Errorf("%s: Heads = %+v, want nothing", name, got)
		}
	}
}

func wantHeads(q impl.Queue) []impl.Req {
	var l []impl.Req
	for tier := range 4 {
		of := wantOfTier(q, tier)
		l = append(l, of[:min(1, len(of))]...)
	}
	return l
}

func checkLate(t *testing.T, name string, r impl.Req, now int, wait int, want bool) {
	t.Helper()
	got := impl.Late(queueOf(1, r), now, wait)
	if want && !slices.Equal(got, []impl.Req{r}) || !want && len(got) != 0 {
		t.Errorf("%s: Late at %d with wait %d of %+v = %+v, want late: %v", name, now, wait, r, got, want)
	}
}

func TestLateByTheDeadline(t *testing.T) {
	for _, wait := range []int{0, 1, 500, impl.MaxTime} { // of no weight where there is a deadline
		for _, deadline := range []int{1, 2, 60, impl.MaxTime - 1} {
			for _, came := range []int{0, deadline - 1, deadline, deadline + 1} {
				r := impl.Req{Id: 7, Deadline: deadline, Came: came}
				checkLate(t, "one below now", r, deadline+1, wait, true)
				checkLate(t, "at now", r, deadline, wait, true)
				checkLate(t, "one above", r, deadline-1, wait, false)
				checkLate(t, "at the end of time", r, impl.MaxTime, wait, true)
				checkLate(t, "at 0", r, 0, wait, false)
			}
		}
		checkLate(t, "below came", impl.Req{Id: 7, Deadline: 30, Came: 40}, 29, wait, false)
		checkLate(t, "below came", impl.Req{Id: 7, Deadline: 30, Came: 40}, 30, wait, true)
		checkLate(t, "MaxTime", impl.Req{Id: 7, Deadline: impl.MaxTime}, impl.MaxTime, wait, true)
		checkLate(t, "MaxTime", impl.Req{Id: 7, Deadline: impl.MaxTime}, impl.MaxTime-1, wait, false)
	}
}

func TestLateByTheWait(t *testing.T) {
	for _, c := range []struct {
		came, wait, now int
		want            bool
	}{
		{40, 20, 59, false}, {40, 20, 60, true}, {40, 20, 61, true},
		{40, 0, 39, false}, {40, 0, 40, true}, {40, 0, 41, true},
		{0, 20, 19, false}, {0, 20, 20, true}, {0, 0, 0, true}, {0, 1, 0, false},
		{0, impl.MaxTime, impl.MaxTime, true}, {0, impl.MaxTime, impl.MaxTime - 1, false},
		{1, impl.MaxTime, impl.MaxTime, false}, {1, impl.MaxTime - 1, impl.MaxTime, true},
		{impl.MaxTime, 0, impl.MaxTime, true}, {impl.MaxTime, 0, impl.MaxTime - 1, false},
		{impl.MaxTime, 1, impl.MaxTime, false}, {impl.MaxTime - 1, 1, impl.MaxTime, true},
		{impl.MaxTime - 1, 2, impl.MaxTime, false}, {impl.MaxTime, impl.MaxTime, impl.MaxTime, false},
		{600000000, 400000000, impl.MaxTime, true}, {600000000, 400000001, impl.MaxTime, false},
	} {
		checkLate(t, "no deadline", impl.Req{Id: 7, Came: c.came}, c.now, c.wait, c.want)
	}
}

func TestLateInOrder(t *testing.T) {
	for _, c := range []struct {
		now, wait int
		want      []int
	}{
		{0, 0, []int{}}, {9, 0, []int{}}, {10, 0, []int{9}}, {20, 0, []int{9, 8}}, {30, 0, []int{9, 8, 5}},
		{58, 40, []int{9}}, {59, 40, []int{9, 7}}, {60, 40, []int{9, 4, 8, 7}}, {61, 40, []int{9, 4, 8, 3, 7}},
		{69, 40, []int{9, 4, 8, 3, 7}}, {70, 40, []int{9, 4, 8, 3, 7, 5}}, {61, 100, []int{4, 3, 7}},
		{impl.MaxTime, impl.MaxTime, []int{4, 3, 7}}, {impl.MaxTime, 0, []int{9, 4, 8, 3, 7, 5}},
	} {
		m := mixedQueue()
		got := impl.Late(m, c.now, c.wait)
		if !slices.Equal(idsOf(got), c.want) || !slices.Equal(got, wantLate(m, c.now, c.wait)) {
			t.Errorf("Late at %d with wait %d = %+v, want %v", c.now, c.wait, got, c.want)
		}
	}
}

func TestLateAtNoTimes(t *testing.T) {
	old := queueOf(3, impl.Req{Id: 1}, impl.Req{Id: 2, Deadline: 1})
	for _, no := range []int{minInt, minInt + 1, -1, impl.MaxTime + 1, impl.MaxInt - 1, impl.MaxInt} {
		for _, other := range []int{minInt, -1, 0, 1, impl.MaxTime, impl.MaxTime + 1, impl.MaxInt} {
			if got := impl.Late(old, no, other); len(got) != 0 {
				t.Errorf("Late at %d with wait %d = %+v, want nothing", no, other, got)
			}
			if got := impl.Late(old, other, no); len(got) != 0 {
				t.Errorf("Late at %d with wait %d = %+v, want nothing", other, no, got)
			}
		}
	}
	if got := impl.Late(old, impl.MaxTime, 0); len(got) != 2 {
		t.Errorf("Late at MaxTime = %+v", got)
	}
	for name, q := range wrongQueues() {
		for _, now := range []int{minInt, 0, 100, impl.MaxTime, impl.MaxInt} {
			if got := impl.Late(q, now, 0); len(got) != 0 {
				t.Errorf("%s: Late at %d = %+v, want nothing", name, now, got)
			}
		}
	}
}

func wantLate(q impl.Queue, now int, wait int) []impl.Req {
	if !wantQueueOk(q) || now < 0 || now > 1000000000 || wait < 0 || wait > 1000000000 {
		return nil
	}
	var l []impl.Req
	for _, r := range q.Reqs {
		byDeadline := r.Deadline != 0 && r.Deadline <= now
		byWait := r.Deadline == 0 && now-r.Came >= wait
		if byDeadline || byWait {
			l = append(l, r)
		}
	}
	return l
}

// checkFirst asks for the request of an Id, or for nobody where that is 0.
func checkFirst(t *testing.T, name string, q impl.Queue, flying []int, most int, want int) {
	t.Helper()
	got, ok := impl.First(q, flying, most)
	model, modelOk := wantFirst(q, flying, most)
	if got.Id != want || ok != (want != 0) || got != model || ok != modelOk {
		t.Errorf("%s: First with %v and %d = %+v, %v, want %d", name, flying, most, got, ok, want)
	}
}

func TestFirst(t *testing.T) {
	// by tiers: 8 of client 6, 7 of 5 (tier 0); 9 of 5, 4 of 6, 5 of 7 (tier 2); 3 of 0 (tier 3)
	m := mixedQueue()
	for _, c := range []struct {
		name   string
		flying []int
		most   int
		want   int
	}{
		{"nobody flies", nil, 1, 8},
		{"an empty list", []int{}, 1, 8},
		{"nobody flies", nil, 2, 8},
		{"nobody flies, the greatest most", nil, impl.MaxInt, 8},
		{"most 0", nil, 0, 0},
		{"most 0, others fly", []int{1, 2, 3}, 0, 0},
		{"most -1", nil, -1, 0},
		{"most -1, all fly", []int{0, 5, 6, 7}, -1, 0},
		{"the least most", []int{5, 6}, minInt, 0},
		{"one fewer", []int{6}, 2, 8},
		{"just as often", []int{6, 6}, 2, 7},
		{"more often", []int{6, 6, 6}, 2, 7},
		{"just as often, apart", []int{6, 5, 6}, 2, 7},
		{"one fewer of many", []int{6, 6, 6, 6}, 5, 8},
		{"many, the greatest most", slices.Repeat([]int{6}, 3000), impl.MaxInt, 8},
		{"the first of the least tier barred", []int{6}, 1, 7},
		{"the next of it barred", []int{5}, 1, 8},
		{"the whole least tier barred", []int{5, 6}, 1, 5},
		{"the whole least tier barred at 2", []int{5, 6, 6, 5, 7}, 2, 5},
		{"two tiers barred", []int{5, 6, 7}, 1, 3},
		{"all barred", []int{5, 6, 7, 0}, 1, 0},
		{"all barred, in another order", []int{0, 7, 6, 5}, 1, 0},
		{"all barred at 2 but one", []int{0, 0, 7, 6, 6, 5, 5}, 2, 5},
		{"all barred at 2", []int{0, 0, 7, 7, 6, 6, 5, 5}, 2, 0},
		{"clients that no request has", []int{1, 2, 8, 9, 1000, 8, 8}, 1, 8},
		{"clients that are none", []int{minInt, -1, impl.MaxInt, impl.MaxInt}, 1, 8},
		{"clients that are none beside others", []int{minInt, 6, impl.MaxInt, -1}, 1, 7},
	} {
		checkFirst(t, c.name, m, c.flying, c.most, c.want)
	}
	checkFirst(t, "empty", queueOf(5), nil, 1, 0)
	checkFirst(t, "room 0", queueOf(0), nil, 1, 0)
	checkFirst(t, "came alike, not by their id", queueOf(3, keyed(1, 40, 9), keyed(1, 40, 7), keyed(2, 40, 1)), nil, 1, 9)
	checkFirst(t, "the last of all", queueOf(3, keyed(3, 40, 1), keyed(2, 40, 2), keyed(0, 40, 3)), nil, 1, 3)
	checkFirst(t, "client 0 flies", queueOf(2, impl.Req{Id: 1}, impl.Req{Id: 2, Client: 1}), []int{0}, 1, 2)
	checkFirst(t, "client MaxClient flies", queueOf(2, greatestReq()), []int{impl.MaxClient}, 1, 0)
	checkFirst(t, "client MaxClient", queueOf(2, greatestReq()), []int{impl.MaxClient}, 2, impl.MaxId)
}

func TestFirstOfAWrongQueue(t *testing.T) {
	for name, q := range wrongQueues() {
		for _, most := range []int{minInt, -1, 0, 1, 5, impl.MaxInt} {
			for _, flying := range [][]int{nil, {2}, {minInt, impl.MaxInt}} {
				if r, ok := impl.First(q, flying, most); ok || r != (impl.Req{}) {
					t.Errorf("%s: First with %v and %d = %+v, %v, want nothing and false", name, flying, most, r, ok)
				}
			}
		}
	}
}

func wantFirst(q impl.Queue, flying []int, most int) (impl.Req, bool) {
	for tier := range 4 {
		for _, r := range wantOfTier(q, tier) {
			count := 0
			for _, client := range flying {
				if client == r.Client {
					count++
				}
			}
			if count < most {
				return r, true
			}
		}
	}
	return impl.Req{}, false
}

// checkQueue holds all calls of the chapter against what the document says of them.
func checkQueue(t *testing.T, q impl.Queue, r impl.Req, now int, wait int, flying []int, most int) {
	t.Helper()
	if got := impl.QueueOk(q); got != wantQueueOk(q) {
		t.Fatalf("QueueOk(%+v) = %v", q, got)
	}
	got, gone, ok := impl.Offer(q, r)
	if want, wantGone, wantOk := wantOffer(q, r); !sameQueue(got, want) || gone != wantGone || ok != wantOk {
		t.Fatalf("Offer(%+v, %+v) = %+v, %+v, %v, want %+v, %+v, %v", q, r, got, gone, ok, want, wantGone, wantOk)
	}
	got, out, ok := impl.Pull(q, r.Id)
	if want, wantOut, wantOk := wantPull(q, r.Id); !sameQueue(got, want) || out != wantOut || ok != wantOk {
		t.Fatalf("Pull(%+v, %d) = %+v, %+v, %v, want %+v, %+v, %v", q, r.Id, got, out, ok, want, wantOut, wantOk)
	}
	if got := impl.OfTier(q, r.Tier); !slices.Equal(got, wantOfTier(q, r.Tier)) {
		t.Fatalf("OfTier(%+v, %d) = %+v", q, r.Tier, got)
	}
	if got := impl.Heads(q); !slices.Equal(got, wantHeads(q)) {
		t.Fatalf("Heads(%+v) = %+v", q, got)
	}
	if got := impl.Late(q, now, wait); !slices.Equal(got, wantLate(q, now, wait)) {
		t.Fatalf("Late(%+v, %d, %d) = %+v", q, now, wait, got)
	}
	first, ok := impl.First(q, flying, most)
	if want, wantOk := wantFirst(q, flying, most); first != want || ok != wantOk {
		t.Fatalf("First(%+v, %v, %d) = %+v, %v, want %+v, %v", q, flying, most, first, ok, want, wantOk)
	}
}

// fewReqs are requests that tie in many ways, a wrong one among them.
func fewReqs() []impl.Req {
	return []impl.Req{
		{Id: 1, Tier: 0, Client: 1, Came: 40},
		{Id: 2, Tier: 1, Client: 1, Came: 40, Deadline: 50},
		{Id: 3, Tier: 1, Client: 2, Came: 40},
		{Id: 2, Tier: 3, Client: 2, Came: 41},
		{Id: 5, Tier: 1, Client: 2, Came: 41, Deadline: 41},
		{Id: 4, Tier: 3, Client: 1, Came: 41},
		{Id: 6, Tier: 0, Client: 2, Came: 42, Deadline: 1},
		{Id: 7, Tier: 4, Client: 1, Came: 42},
	}
}

// smallQueues are all queues of up to four of a few requests, right ones and wrong ones, each with rooms from below to above their number.
func smallQueues() []impl.Queue {
	lists := [][]impl.Req{nil}
	for from := 0; from < len(lists); from++ {
		if len(lists[from]) == 4 {
			continue
		}
		for _, r := range fewReqs() {
			lists = append(lists, append(slices.Clone(lists[from]), r))
		}
	}
	var all []impl.Queue
	for _, l := range lists {
		for room := len(l) - 1; room <= len(l)+1; room++ {
			all = append(all, queueOf(room, l...))
		}
	}
	return all
}

// P3, P10: every small queue, with every request that is near it.
func TestEverySmallQueue(t *testing.T) {
	right := 0
	for i, q := range smallQueues() {
		if wantQueueOk(q) {
			right++
		}
		for k, r := range fewReqs() {
			flying := [][]int{nil, {1}, {2, 2}, {1, 2, 1}}[(i+k)%4]
			checkQueue(t, q, r, 39+(i+k)%5, k%3, flying, (i+k)%4-1)
		}
	}
	if right < 200 {
		t.Errorf("the test met %d right queues", right)
	}
}

// P10: a request with one field at an end of int, or beside an end of its range, in every call and at every place.
func TestQueuesAtTheEndsOfEveryField(t *testing.T) {
	ends := []int{minInt, -1, 0, 1, 3, 4, 20, 21, 1000, 1001, impl.MaxId, impl.MaxId + 1, impl.MaxTime, impl.MaxTime + 1, impl.MaxInt}
	for _, field := range reqFields() {
		for i, n := range ends {
			r := impl.Req{Id: 900, Tier: 2, Client: 5, Came: 64}
			*field(&r) = n
			for _, room := range []int{minInt, -1, 0, 3, 4, 50, 51, impl.MaxInt} {
				checkQueue(t, queueOf(room, mixedQueue().Reqs[:3]...), r, n, 0, []int{n}, n)
				checkQueue(t, queueOf(room, mixedQueue().Reqs[:3]...), r, impl.MaxTime, n, []int{5, n}, 1)
			}
			for place := range 6 {
				checkQueue(t, queueWith(mixedQueue(), place, r), ordinaryReq(), ends[(i+place)%len(ends)], n, []int{6, n}, 1)
			}
		}
	}
}

// someQueue is a queue of any length, with many ties; now and then one request of it, their order, or the room isn't right.
func someQueue(r *rand.Rand) impl.Queue {
	count := r.Intn(impl.MaxRoom + 2)
	if r.Intn(3) > 0 {
		count = r.Intn(7)
	}
	l := someReqs(r, count)
	slices.SortStableFunc(l, func(a impl.Req, b impl.Req) int { return a.Came - b.Came })
	q := queueOf(count, l...)
	switch {
	case r.Intn(3) == 0:
		q.Room = min(impl.MaxRoom, count+1+r.Intn(3))
	case r.Intn(10) == 0:
		q.Room = []int{count - 1, impl.MaxRoom + 1, -1}[r.Intn(3)]
	}
	if count > 1 && r.Intn(10) == 0 {
		place := r.Intn(count)
		change := []func(*impl.Req){
			func(x *impl.Req) { x.Id = 1 + r.Intn(count) },
			func(x *impl.Req) { x.Came = r.Intn(5) },
			func(x *impl.Req) { x.Tier = 4 },
			func(x *impl.Req) { x.Deadline = -1 },
		}
		change[r.Intn(len(change))](&q.Reqs[place])
	}
	return q
}

// P3, P10: queues of all lengths.
func TestQueuesEverywhere(t *testing.T) {
	r := rand.New(rand.NewSource(71))
	right, wrong := 0, 0
	for range 4000 {
		q := someQueue(r)
		if wantQueueOk(q) {
			right++
		} else {
			wrong++
		}
		for range 5 {
			x := impl.Req{Id: 1 + r.Intn(70), Tier: r.Intn(4), Client: r.Intn(4), Came: 3 + r.Intn(3)}
			var flying []int
			for range r.Intn(8) {
				flying = append(flying, r.Intn(5))
			}
			checkQueue(t, q, x, r.Intn(12), r.Intn(6), flying, r.Intn(5)-1)
		}
	}
	if right < 2000 || wrong < 300 {
		t.Errorf("the test met %d right and %d wrong queues", right, wrong)
	}
}

// pastQueue is a queue in use, with all that came in and all that went out again, by their Ids.
type pastQueue struct {
	q    impl.Queue
	came map[int]impl.Req
	left map[int]impl.Req
}

func (x *pastQueue) offer(t *testing.T, r impl.Req) {
	t.Helper()
	before := len(x.q.Reqs)
	next, gone, ok := impl.Offer(x.q, r)
	if !ok {
		t.Fatalf("%+v isn't let into %+v", r, x.q)
	}
	x.came[r.Id] = r
	if full := before == x.q.Room; full != (gone != impl.Req{}) {
		t.Fatalf("%d wait, there is room for %d, and %+v goes", before, x.q.Room, gone)
	}
	if gone != (impl.Req{}) {
		x.goes(t, gone)
		x.isWorst(t, gone, append(slices.Clone(next.Reqs), gone))
	}
	x.q = next
}

// isWorst asks that one is of the least critical tier of all, and of that the one that came last.
func (x *pastQueue) isWorst(t *testing.T, gone impl.Req, all []impl.Req) {
	t.Helper()
	for _, o := range all {
		if o.Tier > gone.Tier || o.Tier == gone.Tier && o.Came > gone.Came {
			t.Fatalf("%+v goes ahead of %+v", gone, o)
		}
	}
}

// goes asks that one that goes out came in as it was, and goes once.
func (x *pastQueue) goes(t *testing.T, r impl.Req) {
	t.Helper()
	if _, twice := x.left[r.Id]; twice || x.came[r.Id] != r {
		t.Fatalf("%+v goes out, twice: %v, it came in as %+v", r, twice, x.came[r.Id])
	}
	x.left[r.Id] = r
}

// check asks that just those wait that came in and didn't go out, in the order in which they came in.
func (x *pastQueue) check(t *testing.T) {
	t.Helper()
	if !impl.QueueOk(x.q) || len(x.q.Reqs) != len(x.came)-len(x.left) {
		t.Fatalf("%d came, %d left, %d wait, right: %v", len(x.came), len(x.left), len(x.q.Reqs), impl.QueueOk(x.q))
	}
	for i, r := range x.q.Reqs {
		if _, out := x.left[r.Id]; out || x.came[r.Id] != r {
			t.Fatalf("%+v waits, left: %v, it came in as %+v", r, out, x.came[r.Id])
		}
		if i > 0 && r.Id < x.q.Reqs[i-1].Id {
			t.Fatalf("%v isn't the order in which they came", idsOf(x.q.Reqs))
		}
	}
}

func (x *pastQueue) pull(t *testing.T, id int) {
	t.Helper()
	next, out, ok := impl.Pull(x.q, id)
	if !ok || out.Id != id {
		t.Fatalf("Pull of %d, which waits, = %+v, %v", id, out, ok)
	}
	x.goes(t, out)
	x.q = next
}

// P3: in a run of offers and pulls what comes into a queue goes out again, once, as it came in, and nothing else does.
func TestAQueueInUse(t *testing.T) {
	r := rand.New(rand.NewSource(72))
	for round := range 60 {
		room := []int{0, 1, 2, 5, 49, impl.MaxRoom}[round%6]
		q, _ := impl.QueueNew(room)
		x := pastQueue{q: q, came: map[int]impl.Req{}, left: map[int]impl.Req{}}
		now := 0
		for id := 1; id <= 200; id++ {
			now += r.Intn(3)
			x.offer(t, impl.Req{Id: id, Tier: r.Intn(4), Client: r.Intn(6), Came: now, Deadline: r.Intn(2) * (now + 5)})
			x.check(t)
			if n := len(x.q.Reqs); n > 0 && r.Intn(4) == 0 {
				x.pull(t, x.q.Reqs[r.Intn(n)].Id)
				x.check(t)
			}
		}
		for len(x.q.Reqs) > 0 {
			x.pull(t, x.q.Reqs[r.Intn(len(x.q.Reqs))].Id)
			x.check(t)
		}
		if len(x.left) != 200 {
			t.Fatalf("of 200 that came %d left", len(x.left))
		}
	}
}

// P3: let through one by one, a request goes only where nobody stands ahead of it, of its tier or a lesser one, whose client may; those that are left are of clients that may have no more.
func TestWhoIsLetThrough(t *testing.T) {
	r := rand.New(rand.NewSource(73))
	barred := 0
	for range 300 {
		q := queueOf(impl.MaxRoom, someReqs(r, r.Intn(30))...)
		slices.SortStableFunc(q.Reqs, func(a impl.Req, b impl.Req) int { return a.Came - b.Came })
		most := 1 + r.Intn(4)
		flies := map[int]int{}
		var flying []int
		for next, ok := impl.First(q, flying, most); ok; next, ok = impl.First(q, flying, most) {
			place := slices.Index(q.Reqs, next)
			for i, o := range q.Reqs {
				ahead := o.Tier < next.Tier || o.Tier == next.Tier && i < place
				if ahead && flies[o.Client] < most {
					t.Fatalf("%+v is let through ahead of %+v", next, o)
				}
			}
			flies[next.Client]++
			flying = append(flying, next.Client)
			if place < 0 || flies[next.Client] > most {
				t.Fatalf("%+v is let through, at place %d, and %d of its client fly", next, place, flies[next.Client])
			}
			q, _, _ = impl.Pull(q, next.Id)
		}
		for _, o := range q.Reqs {
			barred++
			if flies[o.Client] < most {
				t.Fatalf("%+v is left, though %d of its client fly", o, flies[o.Client])
			}
		}
	}
	if barred < 1000 {
		t.Errorf("no more than %d were left", barred)
	}
}

// P3: heads are the first of OfTier of each tier, and all of OfTier make up the queue.
func TestHeadsAndTiersFitTogether(t *testing.T) {
	r := rand.New(rand.NewSource(74))
	for range 1000 {
		q := someQueue(r)
		if !impl.QueueOk(q) {
			continue
		}
		var heads, all []impl.Req
		for tier := range impl.MaxTiers {
			l := impl.OfTier(q, tier)
			all = append(all, l...)
			heads = append(heads, l[:min(1, len(l))]...)
		}
		if got := impl.Heads(q); !slices.Equal(got, heads) {
			t.Fatalf("Heads of %+v = %v, want %v", q, idsOf(got), idsOf(heads))
		}
		want := slices.Clone(q.Reqs)
		slices.SortStableFunc(want, func(a impl.Req, b impl.Req) int { return a.Tier - b.Tier })
		if !slices.Equal(all, want) {
			t.Fatalf("the tiers of %+v are %v", q, idsOf(all))
		}
	}
}

// queueCalls are calls that answer a list of requests, at arguments of all their ways.
func queueCalls() map[string]func(impl.Queue) []impl.Req {
	calls := map[string]func(impl.Queue) []impl.Req{
		"Heads": impl.Heads,
	}
	for tier := -1; tier <= impl.MaxTiers; tier++ {
		calls[fmt.Sprintf("OfTier %d", tier)] = func(q impl.Queue) []impl.Req { return impl.OfTier(q, tier) }
	}
	for _, now := range []int{-1, 0, 30, 60, impl.MaxTime} {
		calls[fmt.Sprintf("Late at %d", now)] = func(q impl.Queue) []impl.Req { return impl.Late(q, now, 0) }
	}
	for _, id := range []int{0, 1, 3, 7, 9, 1000} {
		calls[fmt.Sprintf("Pull of %d", id)] = func(q impl.Queue) []impl.Req {
			left, _, _ := impl.Pull(q, id)
			return left.Reqs
		}
	}
	for _, r := range []impl.Req{{}, keyed(0, impl.MaxTime, 900), keyed(3, impl.MaxTime, impl.MaxId), keyed(2, 64, 901)} {
		calls[fmt.Sprintf("Offer of %+v", r)] = func(q impl.Queue) []impl.Req {
			next, _, _ := impl.Offer(q, r)
			return next.Reqs
		}
	}
	return calls
}

// Chapter 1: no argument is changed, no answer shares memory with one, and what a call answers hangs on its arguments alone.
func TestQueuesShareNoMemory(t *testing.T) {
	given := rightQueues()
	for name, q := range wrongQueues() {
		given["wrong: "+name] = q
	}
	for name, q := range given {
		for what, call := range queueCalls() {
			// room behind the requests, into which an append would write
			under := append(slices.Clone(q.Reqs), greatestReq(), ordinaryReq(), impl.Req{})
			own := queueOf(q.Room, under[:len(q.Reqs)]...)
			checkOwnList(t, name+": "+what, under, impl.Req{Id: 66, Tier: 6}, func() []impl.Req {
				impl.QueueOk(own)
				impl.First(own, []int{2}, 1)
				return call(own)
			})
		}
	}
}

func TestNewQueuesShareNoMemory(t *testing.T) {
	a, _ := impl.QueueNew(5)
	b, _ := impl.QueueNew(5)
	a.Reqs = append(a.Reqs, ordinaryReq())
	b.Reqs = append(b.Reqs, greatestReq())
	if c, _ := impl.QueueNew(5); len(c.Reqs) != 0 || a.Reqs[0] != ordinaryReq() {
		t.Error("new queues share their requests")
	}
}

func TestFirstLeavesFlyingAlone(t *testing.T) {
	under := []int{6, 2, 5, 6, 9, 9}
	flying := under[:4]
	for most := -1; most < 4; most++ {
		impl.First(mixedQueue(), flying, most)
	}
	if !slices.Equal(under, []int{6, 2, 5, 6, 9, 9}) {
		t.Errorf("flying is %v behind First", under)
	}
}

// Chapter 1: called again and again, and by many at once, a call answers alike.
func TestQueueCallsKeepNothing(t *testing.T) {
	queues := []impl.Queue{mixedQueue(), longQueue(50, 50), longQueue(50, 20), oneTier(2), queueOf(0), queueOf(-1)}
	var all sync.WaitGroup
	for range 4 {
		all.Go(func() {
			for round := range 200 {
				for _, q := range queues {
					first, ok := impl.First(q, []int{6, 1}, 1)
					want, wantOk := wantFirst(q, []int{6, 1}, 1)
					if first != want || ok != wantOk || !slices.Equal(impl.Heads(q), wantHeads(q)) {
						t.Errorf("Heads or First differ from call to call")
					}
					next, gone, ok := impl.Offer(q, keyed(1, 70, 500+round))
					wantNext, wantGone, wantOk := wantOffer(q, keyed(1, 70, 500+round))
					if !sameQueue(next, wantNext) || gone != wantGone || ok != wantOk {
						t.Errorf("Offer differs from call to call")
					}
				}
			}
		})
	}
	all.Wait()
}
