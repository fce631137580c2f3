package tests

import (
	"fmt"
	"math/rand"
	"slices"
	"strconv"
	"strings"
	"sync"
	"testing"

	"loop.example/g00685/impl"
)

func ordinaryReq() impl.Req {
	return impl.Req{Id: 7, Tier: 1, Client: 3, Deadline: 90, Came: 40, Try: 2}
}

// reqWith is the ordinary request in which one thing is changed.
func reqWith(change func(*impl.Req)) impl.Req {
	r := ordinaryReq()
	change(&r)
	return r
}

// reqFields tell where each number of a request stands, by name.
func reqFields() map[string]func(*impl.Req) *int {
	return map[string]func(*impl.Req) *int{
		"id":       func(r *impl.Req) *int { return &r.Id },
		"tier":     func(r *impl.Req) *int { return &r.Tier },
		"client":   func(r *impl.Req) *int { return &r.Client },
		"deadline": func(r *impl.Req) *int { return &r.Deadline },
		"came":     func(r *impl.Req) *int { return &r.Came },
		"try":      func(r *impl.Req) *int { return &r.Try },
	}
}

func rightReqs() map[string]impl.Req {
	return map[string]impl.Req{
		"ordinary":                    ordinaryReq(),
		"id 1":                        reqWith(func(r *impl.Req) { r.Id = 1 }),
		"id MaxId - 1":                reqWith(func(r *impl.Req) { r.Id = impl.MaxId - 1 }),
		"id MaxId":                    reqWith(func(r *impl.Req) { r.Id = impl.MaxId }),
		"tier 0":                      reqWith(func(r *impl.Req) { r.Tier = 0 }),
		"tier MaxTiers - 1":           reqWith(func(r *impl.Req) { r.Tier = impl.MaxTiers - 1 }),
		"client 0":                    reqWith(func(r *impl.Req) { r.Client = 0 }),
		"client MaxClient":            reqWith(func(r *impl.Req) { r.Client = impl.MaxClient }),
		"no deadline":                 reqWith(func(r *impl.Req) { r.Deadline = 0 }),
		"deadline 1, below came":      reqWith(func(r *impl.Req) { r.Deadline = 1 }),
		"deadline just below came":    reqWith(func(r *impl.Req) { r.Deadline = 39 }),
		"deadline at came":            reqWith(func(r *impl.Req) { r.Deadline = 40 }),
		"deadline MaxTime":            reqWith(func(r *impl.Req) { r.Deadline = impl.MaxTime }),
		"came 0":                      reqWith(func(r *impl.Req) { r.Came = 0 }),
		"came MaxTime, no deadline":   reqWith(func(r *impl.Req) { r.Came, r.Deadline = impl.MaxTime, 0 }),
		"came MaxTime, past deadline": reqWith(func(r *impl.Req) { r.Came = impl.MaxTime }),
		"try 0":                       reqWith(func(r *impl.Req) { r.Try = 0 }),
		"try MaxTry":                  reqWith(func(r *impl.Req) { r.Try = impl.MaxTry }),
		"all least":                   {Id: 1},
		"all greatest":                greatestReq(),
	}
}

func greatestReq() impl.Req {
	return impl.Req{Id: impl.MaxId, Tier: impl.MaxTiers - 1, Client: impl.MaxClient, Deadline: impl.MaxTime, Came: impl.MaxTime, Try: impl.MaxTry}
}

// wrongReqs are requests of which ReqOk is false, each but a few by one thing.
func wrongReqs() map[string]impl.Req {
	wrong := map[string]impl.Req{
		"the zero request":  {},
		"id 0":              reqWith(func(r *impl.Req) { r.Id = 0 }),
		"id too high":       reqWith(func(r *impl.Req) { r.Id = impl.MaxId + 1 }),
		"tier MaxTiers":     reqWith(func(r *impl.Req) { r.Tier = impl.MaxTiers }),
		"client too high":   reqWith(func(r *impl.Req) { r.Client = impl.MaxClient + 1 }),
		"deadline too late": reqWith(func(r *impl.Req) { r.Deadline = impl.MaxTime + 1 }),
		"came too late":     reqWith(func(r *impl.Req) { r.Came = impl.MaxTime + 1 }),
		"try too high":      reqWith(func(r *impl.Req) { r.Try = impl.MaxTry + 1 }),
	}
	for name, field := range reqFields() {
		for _, far := range []int{minInt, -1, impl.MaxInt} {
			wrong[fmt.Sprintf("%s %d", name, far)] = reqWith(func(r *impl.Req) { *field(r) = far })
			alone := impl.Req{Id: 1}
			*field(&alone) = far
			wrong[fmt.Sprintf("%s %d, the rest least", name, far)] = alone
		}
	}
	for _, far := range []int{minInt, -1, impl.MaxInt} {
		wrong[fmt.Sprintf("all %d", far)] = impl.Req{Id: far, Tier: far, Client: far, Deadline: far, Came: far, Try: far}
	}
	return wrong
}

// finalKinds are the kinds behind which nothing more comes, by their words.
func finalKinds() map[string]int {
	return map[string]int{
		"done":   impl.OuDone,
		"shed":   impl.OuShed,
		"late":   impl.OuLate,
		"slow":   impl.OuSlow,
		"budget": impl.OuBudget,
		"cancel": impl.OuCancel,
		"failed": impl.OuFailed,
		"bad":    impl.OuBad,
	}
}

func grantOut(req int, at int, slot int, gen int) impl.Out {
	return impl.Out{Kind: impl.OuGrant, Req: req, At: at, P: impl.Permit{Slot: slot, Gen: gen}}
}

func rightOuts() map[string]impl.Out {
	right := map[string]impl.Out{
		"grant, ordinary":     grantOut(7, 40, 3, 5),
		"grant, slot 0":       grantOut(7, 40, 0, 5),
		"grant, last slot":    grantOut(7, 40, impl.MaxSlots-1, 5),
		"grant, gen 0":        grantOut(7, 40, 3, 0),
		"grant, gen MaxGen":   grantOut(7, 40, 3, impl.MaxGen),
		"grant, no permit":    grantOut(7, 40, 0, 0),
		"grant, all least":    grantOut(1, 0, 0, 0),
		"grant, all greatest": grantOut(impl.MaxId, impl.MaxTime, impl.MaxSlots-1, impl.MaxGen),
		"grant, req 1":        grantOut(1, 40, 3, 5),
		"grant, req MaxId":    grantOut(impl.MaxId, 40, 3, 5),
		"grant, at 0":         grantOut(7, 0, 3, 5),
		"grant, at MaxTime":   grantOut(7, impl.MaxTime, 3, 5),
	}
	for word, kind := range finalKinds() {
		right[word+", ordinary"] = impl.Out{Kind: kind, Req: 7, At: 40}
		right[word+", req 1"] = impl.Out{Kind: kind, Req: 1, At: 40}
		right[word+", req MaxId"] = impl.Out{Kind: kind, Req: impl.MaxId, At: 40}
		right[word+", at 0"] = impl.Out{Kind: kind, Req: 7}
		right[word+", at MaxTime"] = impl.Out{Kind: kind, Req: 7, At: impl.MaxTime}
		right[word+", all least"] = impl.Out{Kind: kind, Req: 1}
		right[word+", all greatest"] = impl.Out{Kind: kind, Req: impl.MaxId, At: impl.MaxTime}
	}
	return right
}

// wrongOuts are outcomes of which OutOk is false, each but a few by one thing.
func wrongOuts() map[string]impl.Out {
	wrong := map[string]impl.Out{"the zero outcome": {}}
	for _, kind := range []int{minInt, -impl.OuDone, -1, 0, impl.OuBad + 1, impl.OuBad + 2, impl.MaxInt} {
		wrong[fmt.Sprintf("kind %d", kind)] = impl.Out{Kind: kind, Req: 7, At: 40}
		wrong[fmt.Sprintf("kind %d, with a permit", kind)] = impl.Out{Kind: kind, Req: 7, At: 40, P: impl.Permit{Slot: 3, Gen: 5}}
	}
	for _, slot := range []int{minInt, -1, impl.MaxSlots, impl.MaxSlots + 1, impl.MaxInt} {
		wrong[fmt.Sprintf("grant, slot %d", slot)] = grantOut(7, 40, slot, 5)
		wrong[fmt.Sprintf("grant, slot %d, gen 0", slot)] = grantOut(7, 40, slot, 0)
	}
	for _, gen := range []int{minInt, -1, impl.MaxGen + 1, impl.MaxInt} {
		wrong[fmt.Sprintf("grant, gen %d", gen)] = grantOut(7, 40, 3, gen)
		wrong[fmt.Sprintf("grant, slot 0, gen %d", gen)] = grantOut(7, 40, 0, gen)
	}
	for word, kind := range allKinds() {
		for _, req := range []int{minInt, -1, 0, impl.MaxId + 1, impl.MaxInt} {
			wrong[fmt.Sprintf("%s, req %d", word, req)] = impl.Out{Kind: kind, Req: req, At: 40}
		}
		for _, at := range []int{minInt, -1, impl.MaxTime + 1, impl.MaxInt} {
			wrong[fmt.Sprintf("%s, at %d", word, at)] = impl.Out{Kind: kind, Req: 7, At: at}
		}
	}
	for word, kind := range finalKinds() {
		for _, n := range []int{minInt, -1, 1, 3, impl.MaxSlots - 1, impl.MaxGen, impl.MaxInt} {
			wrong[fmt.Sprintf("%s, slot %d", word, n)] = impl.Out{Kind: kind, Req: 7, At: 40, P: impl.Permit{Slot: n}}
			wrong[fmt.Sprintf("%s, gen %d", word, n)] = impl.Out{Kind: kind, Req: 7, At: 40, P: impl.Permit{Gen: n}}
			wrong[fmt.Sprintf("%s, slot and gen %d", word, n)] = impl.Out{Kind: kind, Req: 7, At: 40, P: impl.Permit{Slot: n, Gen: n}}
		}
	}
	return wrong
}

func allKinds() map[string]int {
	kinds := finalKinds()
	kinds["grant"] = impl.OuGrant
	return kinds
}

func TestReqConstants(t *testing.T) {
	if impl.MaxTiers != 4 || impl.MaxTry != 20 {
		t.Error("MaxTiers or MaxTry isn't what the document says")
	}
	got := []int{
		impl.OuGrant, impl.OuDone, impl.OuShed, impl.OuLate, impl.OuSlow,
		impl.OuBudget, impl.OuCancel, impl.OuFailed, impl.OuBad,
	}
	if !slices.Equal(got, []int{1, 2, 3, 4, 5, 6, 7, 8, 9}) {
		t.Errorf("the kinds of outcomes are %v", got)
	}
}

func TestReqOk(t *testing.T) {
	for name, r := range rightReqs() {
		if !impl.ReqOk(r) {
			t.Errorf("%s: ReqOk says false", name)
		}
	}
	for name, r := range wrongReqs() {
		if impl.ReqOk(r) {
			t.Errorf("%s: ReqOk says true", name)
		}
	}
}

func wantReqOk(r impl.Req) bool {
	nameOk := 1 <= r.Id && r.Id <= 1000000 && 0 <= r.Tier && r.Tier <= 3 && 0 <= r.Client && r.Client <= 1000
	timesOk := 0 <= r.Deadline && r.Deadline <= 1000000000 && 0 <= r.Came && r.Came <= 1000000000
	return nameOk && timesOk && 0 <= r.Try && r.Try <= 20
}

// edgeReqs hands over requests with every field at all its edges, beside all edges of the others.
func edgeReqs(see func(impl.Req)) {
	times := []int{minInt, -1, 0, 1, 1000000000, 1000000001, impl.MaxInt}
	for _, id := range []int{minInt, -1, 0, 1, 2, 1000000, 1000001, impl.MaxInt} {
		for _, tier := range []int{minInt, -1, 0, 1, 3, 4, impl.MaxInt} {
			for _, client := range []int{minInt, -1, 0, 1000, 1001, impl.MaxInt} {
				for _, deadline := range times {
					for _, came := range times {
						for _, try := range []int{minInt, -1, 0, 20, 21, impl.MaxInt} {
							see(impl.Req{Id: id, Tier: tier, Client: client, Deadline: deadline, Came: came, Try: try})
						}
					}
				}
			}
		}
	}
}

// P10: ReqOk and ReqText at all edges.
func TestReqsAtAllEdges(t *testing.T) {
	right := 0
	edgeReqs(func(r impl.Req) {
		want := wantReqOk(r)
		if want {
			right++
		}
		if got := impl.ReqOk(r); got != want {
			t.Fatalf("ReqOk(%+v) = %v", r, got)
		}
		if got := impl.ReqText(r); got != wantReqText(r) {
			t.Fatalf("ReqText(%+v) = %q, want %q", r, got, wantReqText(r))
		}
	})
	if right != 3*3*2*3*3*2 {
		t.Errorf("the test met %d right requests", right)
	}
}

func TestOutOk(t *testing.T) {
	for name, o := range rightOuts() {
		if !impl.OutOk(o) {
			t.Errorf("%s: OutOk says false", name)
		}
	}
	for name, o := range wrongOuts() {
		if impl.OutOk(o) {
			t.Errorf("%s: OutOk says true", name)
		}
	}
}

func wantOutOk(o impl.Out) bool {
	if o.Req < 1 || o.Req > 1000000 || o.At < 0 || o.At > 1000000000 {
		return false
	}
	switch o.Kind {
	case 1:
		return 0 <= o.P.Slot && o.P.Slot <= 59 && 0 <= o.P.Gen && o.P.Gen <= 1000000
	case 2, 3, 4, 5, 6, 7, 8, 9:
		return o.P.Slot == 0 && o.P.Gen == 0
	}
	return false
}

// edgeOuts hands over outcomes with every field at all its edges, beside all edges of the others.
func edgeOuts(see func(impl.Out)) {
	kinds := []int{minInt, minInt + 1, -1, 0, 1, 2, 3, 4, 5, 6, 7, 8, 9, 10, 11, impl.MaxInt}
	for _, kind := range kinds {
		for _, req := range []int{minInt, -1, 0, 1, 2, 1000000, 1000001, impl.MaxInt} {
			for _, at := range []int{minInt, -1, 0, 1, 1000000000, 1000000001, impl.MaxInt} {
				for _, slot := range []int{minInt, -1, 0, 1, 58, 59, 60, impl.MaxInt} {
					for _, gen := range []int{minInt, -1, 0, 1, 999999, 1000000, 1000001, impl.MaxInt} {
						see(impl.Out{Kind: kind, Req: req, At: at, P: impl.Permit{Slot: slot, Gen: gen}})
					}
				}
			}
		}
	}
}

// P10: OutOk and OutText at all edges.
func TestOutsAtAllEdges(t *testing.T) {
	right := 0
	edgeOuts(func(o impl.Out) {
		want := wantOutOk(o)
		if want {
			right++
		}
		if got := impl.OutOk(o); got != want {
			t.Fatalf("OutOk(%+v) = %v", o, got)
		}
		if got := impl.OutText(o); got != wantOutText(o) {
			t.Fatalf("OutText(%+v) = %q, want %q", o, got, wantOutText(o))
		}
	})
	if right != 3*3*4*4+8*3*3 {
		t.Errorf("the test met %d right outcomes", right)
	}
}

func TestFinal(t *testing.T) {
	for word, kind := range finalKinds() {
		if !impl.Final(kind) {
			t.Errorf("Final says false of %s", word)
		}
	}
	for _, kind := range []int{minInt, minInt + 1, -impl.OuBad, -impl.OuDone, -1, 0, impl.OuGrant, impl.OuBad + 1, impl.OuBad + 2, 1000, impl.MaxInt} {
		if impl.Final(kind) {
			t.Errorf("Final(%d) says true", kind)
		}
	}
	for kind := -300; kind <= 300; kind++ {
		if got := impl.Final(kind); got != (kind >= 2 && kind <= 9) {
			t.Errorf("Final(%d) = %v", kind, got)
		}
	}
}

// keyed is a request with the three numbers by which one is worse than another.
func keyed(tier int, came int, id int) impl.Req {
	return impl.Req{Id: id, Tier: tier, Came: came, Client: 2}
}

// worsePairs are pairs of which the first is worse than the second.
func worsePairs() map[string][2]impl.Req {
	return map[string][2]impl.Req{
		"the tier alone":                  {keyed(2, 40, 7), keyed(1, 40, 7)},
		"the tier alone, from end to end": {keyed(impl.MaxTiers-1, 40, 7), keyed(0, 40, 7)},
		"came alone":                      {keyed(1, 41, 7), keyed(1, 40, 7)},
		"came alone, from end to end":     {keyed(1, impl.MaxTime, 7), keyed(1, 0, 7)},
		"the id alone":                    {keyed(1, 40, 8), keyed(1, 40, 7)},
		"the id alone, from end to end":   {keyed(1, 40, impl.MaxId), keyed(1, 40, 1)},
		"the tier against came":           {keyed(2, 40, 7), keyed(1, 41, 7)},
		"the tier against the id":         {keyed(2, 40, 7), keyed(1, 40, 8)},
		"the tier against both":           {keyed(2, 40, 7), keyed(1, 90, 9)},
		"the tier against all of both":    {keyed(1, 0, 1), keyed(0, impl.MaxTime, impl.MaxId)},
		"the tier and both":               {keyed(2, 41, 8), keyed(1, 40, 7)},
		"came against the id":             {keyed(1, 41, 7), keyed(1, 40, 8)},
		"came against all of the id":      {keyed(1, 1, 1), keyed(1, 0, impl.MaxId)},
		"came and the id":                 {keyed(1, 41, 8), keyed(1, 40, 7)},
		"a wrong tier":                    {keyed(impl.MaxTiers, 40, 7), keyed(impl.MaxTiers-1, 41, 8)},
		"a tier below 0":                  {keyed(0, 40, 7), keyed(-1, 41, 8)},
		"a wrong came":                    {keyed(1, impl.MaxTime+1, 7), keyed(1, impl.MaxTime, 8)},
		"a came below 0":                  {keyed(1, 0, 7), keyed(1, -1, 8)},
		"a wrong id":                      {keyed(1, 40, impl.MaxId+1), keyed(1, 40, impl.MaxId)},
		"an id of 0":                      {keyed(1, 40, 1), keyed(1, 40, 0)},
		"both wrong":                      {keyed(9, -5, -6), keyed(8, impl.MaxTime+5, impl.MaxId+6)},
		"the ends of the tier":            {keyed(impl.MaxInt, minInt, minInt), keyed(minInt, impl.MaxInt, impl.MaxInt)},
		"the ends of came":                {keyed(1, impl.MaxInt, minInt), keyed(1, minInt, impl.MaxInt)},
		"the ends of the id":              {keyed(1, 40, impl.MaxInt), keyed(1, 40, minInt)},
		"a zero request":                  {impl.Req{Id: 1}, impl.Req{}},
	}
}

func TestWorse(t *testing.T) {
	for name, pair := range worsePairs() {
		if !impl.Worse(pair[0], pair[1]) {
			t.Errorf("%s: %+v isn't worse than %+v", name, pair[0], pair[1])
		}
		if impl.Worse(pair[1], pair[0]) {
			t.Errorf("%s: %+v is worse than %+v", name, pair[1], pair[0])
		}
	}
}

func TestNobodyIsWorseThanItself(t *testing.T) {
	for name, r := range rightReqs() {
		if impl.Worse(r, r) {
			t.Errorf("%s: it is worse than itself", name)
		}
	}
	for name, r := range wrongReqs() {
		if impl.Worse(r, r) {
			t.Errorf("%s: it is worse than itself", name)
		}
	}
}

// The client, the deadline and the try have no say in who is worse.
func TestWorseLooksAtNothingElse(t *testing.T) {
	others := []int{minInt, -1, 0, 1, 20, 40, 1000, impl.MaxTime, impl.MaxInt}
	set := map[string]func(*impl.Req, int){
		"client":   func(r *impl.Req, n int) { r.Client = n },
		"deadline": func(r *impl.Req, n int) { r.Deadline = n },
		"try":      func(r *impl.Req, n int) { r.Try = n },
	}
	pairs := worsePairs()
	pairs["alike"] = [2]impl.Req{keyed(1, 40, 7), keyed(1, 40, 7)}
	for name, pair := range pairs {
		a, b := pair[0], pair[1]
		for what, put := range set {
			for _, n := range others {
				for _, m := range others {
					c, d := a, b
					put(&c, n)
					put(&d, m)
					if impl.Worse(c, d) != impl.Worse(a, b) || impl.Worse(d, c) != impl.Worse(b, a) {
						t.Errorf("%s: a %s of %d and %d tells who is worse", name, what, n, m)
					}
				}
			}
		}
	}
}

// wantWorse takes the words one by one.
func wantWorse(a impl.Req, b impl.Req) bool {
	tier := a.Tier > b.Tier
	came := a.Tier == b.Tier && a.Came > b.Came
	id := a.Tier == b.Tier && a.Came == b.Came && a.Id > b.Id
	return tier || came || id
}

// keyedReqs are requests with all of a few numbers, right ones and wrong ones.
func keyedReqs() []impl.Req {
	var l []impl.Req
	for _, tier := range []int{minInt, -1, 0, 1, 3, 4, impl.MaxInt} {
		for _, came := range []int{minInt, -1, 0, 40, 41, impl.MaxTime, impl.MaxInt} {
			for _, id := range []int{minInt, 0, 1, 7, 8, impl.MaxId, impl.MaxInt} {
				l = append(l, keyed(tier, came, id))
			}
		}
	}
	return l
}

// P3: of two that aren't alike in Tier, Came and Id just one is worse than the other, and of two that are, none.
func TestWorseOfEveryPair(t *testing.T) {
	l := keyedReqs()
	for i, a := range l {
		for k, b := range l {
			there, back := impl.Worse(a, b), impl.Worse(b, a)
			if there != wantWorse(a, b) {
				t.Fatalf("Worse(%+v, %+v) = %v", a, b, there)
			}
			if i == k && (there || back) || i != k && there == back {
				t.Fatalf("%+v and %+v: worse %v, the other way round %v", a, b, there, back)
			}
		}
	}
}

// P3: who is worse than one that is worse than a third is worse than that, too.
func TestWorseGoesOn(t *testing.T) {
	r := rand.New(rand.NewSource(61))
	l := keyedReqs()
	met := 0
	for range 200000 {
		a, b, c := l[r.Intn(len(l))], l[r.Intn(len(l))], l[r.Intn(len(l))]
		if !impl.Worse(a, b) || !impl.Worse(b, c) {
			continue
		}
		met++
		if !impl.Worse(a, c) {
			t.Fatalf("%+v is worse than %+v, and that than %+v, but the first isn't worse than the last", a, b, c)
		}
	}
	if met < 10000 {
		t.Errorf("the test met %d such threes", met)
	}
}

// someReqs are right requests with different Ids, many of them alike in Tier and Came.
func someReqs(r *rand.Rand, count int) []impl.Req {
	var l []impl.Req
	for _, n := range r.Perm(count) {
		came := r.Intn(5)
		l = append(l, impl.Req{Id: n + 1, Tier: r.Intn(impl.MaxTiers), Client: r.Intn(4), Deadline: r.Intn(2) * (came + 3), Came: came, Try: r.Intn(3)})
	}
	return l
}

// P3: of many just one is worse than all others; it is of the least critical tier there is, and of that the one that came last.
func TestWhoIsShedFirst(t *testing.T) {
	r := rand.New(rand.NewSource(62))
	for range 2000 {
		l := someReqs(r, 1+r.Intn(20))
		worst := worstOf(l)
		if len(worst) != 1 {
			t.Fatalf("of %+v %d are worse than all others", l, len(worst))
		}
		w := worst[0]
		for _, o := range l {
			if o.Tier > w.Tier || o.Tier == w.Tier && o.Came > w.Came || o.Tier == w.Tier && o.Came == w.Came && o.Id > w.Id {
				t.Fatalf("%+v goes ahead of %+v", w, o)
			}
		}
	}
}

// worstOf are those that are Worse than all others.
func worstOf(l []impl.Req) []impl.Req {
	var worst []impl.Req
	for i, a := range l {
		all := true
		for k, b := range l {
			all = all && (i == k || impl.Worse(a, b))
		}
		if all {
			worst = append(worst, a)
		}
	}
	return worst
}

func TestOutText(t *testing.T) {
	for want, o := range map[string]impl.Out{
		"grant 7 40 3 5":                      grantOut(7, 40, 3, 5),
		"grant 7 40 0 0":                      grantOut(7, 40, 0, 0),
		"grant 7 40 0 5":                      grantOut(7, 40, 0, 5),
		"grant 7 40 3 0":                      grantOut(7, 40, 3, 0),
		"grant 1 0 0 0":                       grantOut(1, 0, 0, 0),
		"grant 1000000 1000000000 59 1000000": grantOut(impl.MaxId, impl.MaxTime, impl.MaxSlots-1, impl.MaxGen),
		"done 7 40":                           {Kind: impl.OuDone, Req: 7, At: 40},
		"shed 7 40":                           {Kind: impl.OuShed, Req: 7, At: 40},
		"late 7 40":                           {Kind: impl.OuLate, Req: 7, At: 40},
		"slow 7 40":                           {Kind: impl.OuSlow, Req: 7, At: 40},
		"budget 7 40":                         {Kind: impl.OuBudget, Req: 7, At: 40},
		"cancel 7 40":                         {Kind: impl.OuCancel, Req: 7, At: 40},
		"failed 7 40":                         {Kind: impl.OuFailed, Req: 7, At: 40},
		"bad 7 40":                            {Kind: impl.OuBad, Req: 7, At: 40},
		"bad 1 0":                             {Kind: impl.OuBad, Req: 1},
		"done 1000000 1000000000":             {Kind: impl.OuDone, Req: impl.MaxId, At: impl.MaxTime},
		"late 10 100":                         {Kind: impl.OuLate, Req: 10, At: 100},
	} {
		if got := impl.OutText(o); got != want {
			t.Errorf("OutText(%+v) = %q, want %q", o, got, want)
		}
	}
	for name, o := range wrongOuts() {
		if got := impl.OutText(o); got != "" {
			t.Errorf("%s: OutText(%+v) = %q, want the empty text", name, o, got)
		}
	}
}

func TestReqText(t *testing.T) {
	for want, r := range map[string]impl.Req{
		"7 1 3 90 40 2": ordinaryReq(),
		"1 0 0 0 0 0":   {Id: 1},
		"1000000 3 1000 1000000000 1000000000 20": greatestReq(),
		"7 0 3 90 40 2":         reqWith(func(r *impl.Req) { r.Tier = 0 }),
		"7 1 0 90 40 2":         reqWith(func(r *impl.Req) { r.Client = 0 }),
		"7 1 3 0 40 2":          reqWith(func(r *impl.Req) { r.Deadline = 0 }),
		"7 1 3 90 0 2":          reqWith(func(r *impl.Req) { r.Came = 0 }),
		"7 1 3 90 40 0":         reqWith(func(r *impl.Req) { r.Try = 0 }),
		"7 1 3 30 40 2":         reqWith(func(r *impl.Req) { r.Deadline = 30 }),
		"1000000 1 3 90 40 2":   reqWith(func(r *impl.Req) { r.Id = impl.MaxId }),
		"7 3 3 90 40 2":         reqWith(func(r *impl.Req) { r.Tier = impl.MaxTiers - 1 }),
		"7 1 1000 90 40 2":      reqWith(func(r *impl.Req) { r.Client = impl.MaxClient }),
		"7 1 3 1000000000 40 2": reqWith(func(r *impl.Req) { r.Deadline = impl.MaxTime }),
		"7 1 3 90 1000000000 2": reqWith(func(r *impl.Req) { r.Came = impl.MaxTime }),
		"7 1 3 90 40 20":        reqWith(func(r *impl.Req) { r.Try = impl.MaxTry }),
	} {
		if got := impl.ReqText(r); got != want {
			t.Errorf("ReqText(%+v) = %q, want %q", r, got, want)
		}
	}
	for name, r := range wrongReqs() {
		if got := impl.ReqText(r); got != "" {
			t.Errorf("%s: ReqText(%+v) = %q, want the empty text", name, r, got)
		}
	}
}

func wantOutText(o impl.Out) string {
	words := []string{1: "grant", 2: "done", 3: "shed", 4: "late", 5: "slow", 6: "budget", 7: "cancel", 8: "failed", 9: "bad"}
	switch {
	case !wantOutOk(o):
		return ""
	case o.Kind == 1:
		return fmt.Sprintf("grant %d %d %d %d", o.Req, o.At, o.P.Slot, o.P.Gen)
	}
	return fmt.Sprintf("%s %d %d", words[o.Kind], o.Req, o.At)
}

func wantReqText(r impl.Req) string {
	if !wantReqOk(r) {
		return ""
	}
	return fmt.Sprintf("%d %d %d %d %d %d", r.Id, r.Tier, r.Client, r.Deadline, r.Came, r.Try)
}

// wordsOf cuts a text at its blanks, and asks that there is none in front, none at the end, and one between.
func wordsOf(t *testing.T, text string, count int) []string {
	t.Helper()
	words := strings.Split(text, " ")
	if len(words) != count || slices.Contains(words, "") || strings.ContainsAny(text, "\t\n\r") {
		t.Fatalf("%q isn't %d words with a blank between", text, count)
	}
	return words
}

// numbersOf reads words back as numbers.
func numbersOf(t *testing.T, words []string) []int {
	t.Helper()
	var l []int
	for _, w := range words {
		n, err := strconv.Atoi(w)
		if err != nil || strconv.Itoa(n) != w {
			t.Fatalf("%q is no number as it is written", w)
		}
		l = append(l, n)
	}
	return l
}

// readReq is the request that a text tells.
func readReq(t *testing.T, text string) impl.Req {
	t.Helper()
	n := numbersOf(t, wordsOf(t, text, 6))
	return impl.Req{Id: n[0], Tier: n[1], Client: n[2], Deadline: n[3], Came: n[4], Try: n[5]}
}

// readOut is the outcome that a text tells.
func readOut(t *testing.T, text string) impl.Out {
	t.Helper()
	if strings.HasPrefix(text, "grant ") {
		n := numbersOf(t, wordsOf(t, text, 5)[1:])
		return grantOut(n[0], n[1], n[2], n[3])
	}
	words := wordsOf(t, text, 3)
	kind, known := finalKinds()[words[0]]
	if !known {
		t.Fatalf("%q has a word that is none", text)
	}
	n := numbersOf(t, words[1:])
	return impl.Out{Kind: kind, Req: n[0], At: n[1]}
}

// P9: what is told of a right request or outcome tells all of it.
func TestTextsTellAll(t *testing.T) {
	for name, r := range rightReqs() {
		if got := readReq(t, impl.ReqText(r)); got != r {
			t.Errorf("%s: ReqText tells %+v of %+v", name, got, r)
		}
	}
	for name, o := range rightOuts() {
		if got := readOut(t, impl.OutText(o)); got != o {
			t.Errorf("%s: OutText tells %+v of %+v", name, got, o)
		}
	}
}

// someNumber is any number from lo to hi, small ones and both ends among them.
func someNumber(r *rand.Rand, lo int, hi int) int {
	switch r.Intn(4) {
	case 0:
		return lo
	case 1:
		return hi
	case 2:
		return lo + r.Intn(min(12, hi-lo+1))
	}
	return lo + r.Intn(hi-lo+1)
}

// P9, P10: requests and outcomes from all over their ranges; now and then a number is one too low or too high.
func TestReqsAndOutsEverywhere(t *testing.T) {
	r := rand.New(rand.NewSource(63))
	right, wrong := 0, 0
	for range 20000 {
		off := 0
		if r.Intn(8) == 0 {
			off = 1
		}
		q := impl.Req{
			Id: someNumber(r, 1-off, 1000000+off), Tier: someNumber(r, -off, 3+off), Client: someNumber(r, -off, 1000+off),
			Deadline: someNumber(r, -off, 1000000000+off), Came: someNumber(r, -off, 1000000000+off), Try: someNumber(r, -off, 20+off),
		}
		o := impl.Out{Kind: someNumber(r, 1-off, 9+off), Req: someNumber(r, 1-off, 1000000+off), At: someNumber(r, -off, 1000000000+off)}
		if o.Kind == 1 || r.Intn(9) == 0 {
			o.P = impl.Permit{Slot: someNumber(r, -off, 59+off), Gen: someNumber(r, -off, 1000000+off)}
		}
		if wantReqOk(q) && wantOutOk(o) {
			right++
		} else {
			wrong++
		}
		if impl.ReqOk(q) != wantReqOk(q) || impl.ReqText(q) != wantReqText(q) {
			t.Fatalf("%+v: ReqOk %v, ReqText %q", q, impl.ReqOk(q), impl.ReqText(q))
		}
		if impl.OutOk(o) != wantOutOk(o) || impl.OutText(o) != wantOutText(o) {
			t.Fatalf("%+v: OutOk %v, OutText %q", o, impl.OutOk(o), impl.OutText(o))
		}
	}
	if right < 5000 || wrong < 1000 {
		t.Errorf("the test met %d right and %d wrong pairs", right, wrong)
	}
}

// Chapter 1: what a call answers hangs on its arguments alone, whatever was called ahead of it and whoever calls beside it.
func TestReqCallsKeepNothing(t *testing.T) {
	reqs, outs := rightReqs(), rightOuts()
	for name, r := range wrongReqs() {
		reqs["wrong: "+name] = r
	}
	for name, o := range wrongOuts() {
		outs["wrong: "+name] = o
	}
	var all sync.WaitGroup
	for range 4 {
		all.Go(func() {
			for name, r := range reqs {
				if impl.ReqOk(r) != wantReqOk(r) || impl.ReqText(r) != wantReqText(r) {
					t.Errorf("%s: answers differ from call to call", name)
				}
			}
			for name, o := range outs {
				if impl.OutOk(o) != wantOutOk(o) || impl.OutText(o) != wantOutText(o) || impl.Final(o.Kind) != (o.Kind >= 2 && o.Kind <= 9) {
					t.Errorf("%s: answers differ from call to call", name)
				}
			}
		})
	}
	all.Wait()
}
