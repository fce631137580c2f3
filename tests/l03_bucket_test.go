package tests

import (
	"math/big"
	"math/rand"
	"testing"

	"loop.example/g00685/impl"
)

const perToken = 1000

// rightBuckets are buckets at the edges of what BucketOk allows.
func rightBuckets() map[string]impl.Bucket {
	return map[string]impl.Bucket{
		"the zero bucket":        {},
		"an ordinary one":        {Burst: 2, Rate: 100, Have: 700, At: 40},
		"burst 0":                {Rate: 5, At: 40},
		"burst 1":                {Burst: 1, Rate: 5, Have: 3, At: 40},
		"the greatest burst":     {Burst: impl.MaxBurst, Rate: 5, Have: 3, At: 40},
		"rate 0":                 {Burst: 2, Have: 3, At: 40},
		"rate 1":                 {Burst: 2, Rate: 1, Have: 3, At: 40},
		"the greatest rate":      {Burst: 2, Rate: impl.MaxRate, Have: 3, At: 40},
		"nothing in it":          {Burst: 2, Rate: 5, At: 40},
		"one less than full":     {Burst: 2, Rate: 5, Have: 1999, At: 40},
		"full":                   {Burst: 2, Rate: 5, Have: 2000, At: 40},
		"full of all":            {Burst: impl.MaxBurst, Rate: 5, Have: perToken * impl.MaxBurst, At: 40},
		"time 0":                 {Burst: 2, Rate: 5, Have: 3},
		"one ahead of the end":   {Burst: 2, Rate: 5, Have: 3, At: impl.MaxTime - 1},
		"the last time":          {Burst: 2, Rate: 5, Have: 3, At: impl.MaxTime},
		"all at its greatest":    {Burst: impl.MaxBurst, Rate: impl.MaxRate, Have: perToken * impl.MaxBurst, At: impl.MaxTime},
		"burst 0 at the end":     {Rate: impl.MaxRate, At: impl.MaxTime},
		"nothing and rate 0":     {Burst: 1},
		"one token, full":        {Burst: 1, Rate: 1, Have: 1000},
		"just below a token":     {Burst: 1, Rate: 1, Have: 999},
		"just above a token":     {Burst: 3, Rate: 1, Have: 1001},
		"a token and rate 0":     {Burst: 3, Have: 1000, At: 9},
		"below one and rate 0":   {Burst: 3, Have: 999, At: 9},
		"greatest burst, rate 0": {Burst: impl.MaxBurst, Have: 999},
	}
}

// wrongBuckets are buckets of which BucketOk is false, each by one field.
func wrongBuckets() map[string]impl.Bucket {
	return map[string]impl.Bucket{
		"burst -1":                  {Burst: -1, Rate: 5, At: 40},
		"burst -1, Have to fit":     {Burst: -1, Rate: 5, Have: -1000, At: 40},
		"burst above its end":       {Burst: impl.MaxBurst + 1, Rate: 5, Have: 3, At: 40},
		"full above its end":        {Burst: impl.MaxBurst + 1, Rate: 5, Have: perToken * (impl.MaxBurst + 1), At: 40},
		"the least burst":           {Burst: minInt, Rate: 5, At: 40},
		"the greatest int of burst": {Burst: impl.MaxInt, Rate: 5, Have: 3, At: 40},
		"a burst that wraps round":  {Burst: impl.MaxInt/perToken + 1, Rate: 5, Have: 3, At: 40},
		"rate -1":                   {Burst: 2, Rate: -1, Have: 1500, At: 40},
		"rate above its end":        {Burst: 2, Rate: impl.MaxRate + 1, Have: 1500, At: 40},
		"the least rate":            {Burst: 2, Rate: minInt, Have: 1500, At: 40},
		"the greatest int of rate":  {Burst: 2, Rate: impl.MaxInt, Have: 1500, At: 40},
		"Have -1":                   {Burst: 2, Rate: 5, Have: -1, At: 40},
		"Have one above full":       {Burst: 2, Rate: 5, Have: 2001, At: 40},
		"Have 1 with burst 0":       {Rate: 5, Have: 1, At: 40},
		"Have a token with burst 0": {Rate: 5, Have: 1000, At: 40},
		"Have above all":            {Burst: impl.MaxBurst, Rate: 5, Have: perToken*impl.MaxBurst + 1, At: 40},
		"the least Have":            {Burst: 2, Rate: 5, Have: minInt, At: 40},
		"the greatest int of Have":  {Burst: 2, Rate: 5, Have: impl.MaxInt, At: 40},
		"At -1":                     {Burst: 2, Rate: 5, Have: 1500, At: -1},
		"At above its end":          {Burst: 2, Rate: 5, Have: 1500, At: impl.MaxTime + 1},
		"the least At":              {Burst: 2, Rate: 5, Have: 1500, At: minInt},
		"the greatest int of At":    {Burst: 2, Rate: 5, Have: 1500, At: impl.MaxInt},
		"all at the least int":      {Burst: minInt, Rate: minInt, Have: minInt, At: minInt},
		"all at the greatest int":   {Burst: impl.MaxInt, Rate: impl.MaxInt, Have: impl.MaxInt, At: impl.MaxInt},
	}
}

func TestBucketConstants(t *testing.T) {
	if impl.MaxBurst != 1000 || impl.MaxRate != 1000000 {
		t.Error("a constant of chapter 4 isn't what the document says")
	}
}

func TestBucketOk(t *testing.T) {
	for name, b := range rightBuckets() {
		if !impl.BucketOk(b) {
			t.Errorf("%s: BucketOk says false", name)
		}
	}
	for name, b := range wrongBuckets() {
		if impl.BucketOk(b) {
			t.Errorf("%s: BucketOk says true", name)
		}
	}
}

// between asks by big numbers, which don't wrap round.
func between(n int, lo int, hi *big.Int) bool {
	return n >= lo && big.NewInt(int64(n)).Cmp(hi) <= 0
}

func wantBucketOk(b impl.Bucket) bool {
	full := new(big.Int).Mul(big.NewInt(perToken), big.NewInt(int64(b.Burst)))
	return between(b.Burst, 0, big.NewInt(1000)) && between(b.Rate, 0, big.NewInt(1000000)) &&
		between(b.Have, 0, full) && between(b.At, 0, big.NewInt(1000000000))
}

// Every field at all its edges, beside all edges of the others.
func TestBucketOkAtAllEdges(t *testing.T) {
	bursts := []int{minInt, -1, 0, 1, impl.MaxBurst - 1, impl.MaxBurst, impl.MaxBurst + 1, impl.MaxInt/perToken + 1, impl.MaxInt}
	rates := []int{minInt, -1, 0, 1, impl.MaxRate - 1, impl.MaxRate, impl.MaxRate + 1, impl.MaxInt}
	ats := []int{minInt, -1, 0, 1, impl.MaxTime - 1, impl.MaxTime, impl.MaxTime + 1, impl.MaxInt}
	haves := []int{minInt, -1001, -1000, -1, 0, 1, 999, 1000, 1001, impl.MaxInt}
	for _, burst := range bursts {
		full := perToken * burst // may wrap round: one more edge then
		for _, have := range append(haves, full-1, full, full+1) {
			for _, rate := range rates {
				for _, at := range ats {
					b := impl.Bucket{Burst: burst, Rate: rate, Have: have, At: at}
					if got, want := impl.BucketOk(b), wantBucketOk(b); got != want {
						t.Errorf("BucketOk(%+v) = %v", b, got)
					}
				}
			}
		}
	}
}

func TestBucketNew(t *testing.T) {
	for _, burst := range []int{0, 1, 2, impl.MaxBurst - 1, impl.MaxBurst} {
		for _, rate := range []int{0, 1, 100, impl.MaxRate - 1, impl.MaxRate} {
			want := impl.Bucket{Burst: burst, Rate: rate, Have: perToken * burst}
			if b, ok := impl.BucketNew(burst, rate); !ok || b != want || !impl.BucketOk(b) {
				t.Errorf("BucketNew(%d, %d) = %+v, %v, want %+v", burst, rate, b, ok, want)
			}
		}
	}
}

func TestBucketNewAtWrongInputs(t *testing.T) {
	wrongBursts := []int{-1, -1000, minInt, minInt + 1, impl.MaxBurst + 1, impl.MaxInt/perToken + 1, impl.MaxInt - 1, impl.MaxInt}
	wrongRates := []int{-1, minInt, impl.MaxRate + 1, impl.MaxInt}
	refuse := func(burst int, rate int) {
		t.Helper()
		if b, ok := impl.BucketNew(burst, rate); ok || b != (impl.Bucket{}) {
			t.Errorf("BucketNew(%d, %d) = %+v, %v, want nothing and false", burst, rate, b, ok)
		}
	}
	for _, burst := range wrongBursts {
		for _, rate := range append([]int{0, 5, impl.MaxRate}, wrongRates...) {
			refuse(burst, rate)
		}
	}
	for _, rate := range wrongRates {
		for _, burst := range []int{0, 5, impl.MaxBurst} {
			refuse(burst, rate)
		}
	}
}

func TestFill(t *testing.T) {
	b := impl.Bucket{Burst: 2, Rate: 100, Have: 700, At: 40}
	full := impl.Bucket{Burst: 2, Rate: 100, Have: 2000, At: 40}
	for _, c := range []struct {
		b          impl.Bucket
		now        int
		have, then int
	}{
		{b, 0, 700, 40},
		{b, 39, 700, 40},
		{b, 40, 700, 40},
		{b, 41, 800, 41},
		{b, 52, 1900, 52},
		{b, 53, 2000, 53}, // just full
		{b, 54, 2000, 54},
		{b, impl.MaxTime, 2000, impl.MaxTime},
		// a rate that doesn't come to the end evenly
		{impl.Bucket{Burst: 1, Rate: 3, Have: 0, At: 0}, 333, 999, 333},
		{impl.Bucket{Burst: 1, Rate: 3, Have: 0, At: 0}, 334, 1000, 334},
		{impl.Bucket{Burst: 1, Rate: 3, Have: 1, At: 0}, 333, 1000, 333},
		{impl.Bucket{Burst: 1, Rate: 3, Have: 2, At: 0}, 333, 1000, 333},
		// full already
		{full, 39, 2000, 40},
		{full, 40, 2000, 40},
		{full, 41, 2000, 41},
		{full, impl.MaxTime, 2000, impl.MaxTime},
		// nothing comes
		{impl.Bucket{Burst: 2, Have: 700, At: 40}, 39, 700, 40},
		{impl.Bucket{Burst: 2, Have: 700, At: 40}, 41, 700, 41},
		{impl.Bucket{Burst: 2, Have: 700, At: 40}, impl.MaxTime, 700, impl.MaxTime},
		// nothing may be held
		{impl.Bucket{Rate: 100, At: 40}, 39, 0, 40},
		{impl.Bucket{Rate: 100, At: 40}, 41, 0, 41},
		{impl.Bucket{Rate: impl.MaxRate}, impl.MaxTime, 0, impl.MaxTime},
		// over the longest time
		{impl.Bucket{Burst: impl.MaxBurst, Rate: impl.MaxRate}, impl.MaxTime, 1000000, impl.MaxTime},
		{impl.Bucket{Burst: impl.MaxBurst, Rate: impl.MaxRate, Have: 1000000}, impl.MaxTime, 1000000, impl.MaxTime},
		{impl.Bucket{Burst: 1, Rate: impl.MaxRate}, impl.MaxTime, 1000, impl.MaxTime},
		{impl.Bucket{Burst: impl.MaxBurst, Rate: 1}, impl.MaxTime, 1000000, impl.MaxTime},
		{impl.Bucket{Burst: impl.MaxBurst, Rate: 1}, 999999, 999999, 999999},
		{impl.Bucket{Burst: impl.MaxBurst, Rate: 1}, 1000000, 1000000, 1000000},
		{impl.Bucket{Burst: impl.MaxBurst, Rate: impl.MaxRate}, 1, 1000000, 1},
		{impl.Bucket{Burst: impl.MaxBurst, Rate: impl.MaxRate - 1}, 1, 999999, 1},
		// at the end of time
		{impl.Bucket{Burst: 2, Rate: 100, At: impl.MaxTime}, impl.MaxTime, 0, impl.MaxTime},
		{impl.Bucket{Burst: 2, Rate: 100, At: impl.MaxTime}, impl.MaxTime - 1, 0, impl.MaxTime},
		{impl.Bucket{Burst: 2, Rate: 100, At: impl.MaxTime}, 0, 0, impl.MaxTime},
		{impl.Bucket{Burst: 2, Rate: 100, At: impl.MaxTime - 1}, impl.MaxTime, 100, impl.MaxTime},
		{impl.Bucket{}, 7, 0, 7},
	} {
		want := impl.Bucket{Burst: c.b.Burst, Rate: c.b.Rate, Have: c.have, At: c.then}
		if got := impl.Fill(c.b, c.now); got != want {
			t.Errorf("Fill(%+v, %d) = %+v, want %+v", c.b, c.now, got, want)
		}
	}
}

func TestTake(t *testing.T) {
	// 20 thousandths come from 40 to 50, so Have is 20 below what is there behind the filling
	filledTo := func(have int) impl.Bucket { return impl.Bucket{Burst: 3, Rate: 2, Have: have - 20, At: 40} }
	for _, c := range []struct {
		b          impl.Bucket
		now        int
		have, then int
		ok         bool
	}{
		{filledTo(20), 50, 20, 50, false},
		{filledTo(999), 50, 999, 50, false},
		{filledTo(1000), 50, 0, 50, true},
		{filledTo(1001), 50, 1, 50, true},
		{filledTo(2999), 50, 1999, 50, true},
		{filledTo(3000), 50, 2000, 50, true},
		{filledTo(3001), 50, 2000, 50, true}, // it was full behind the filling
		{filledTo(3020), 50, 2000, 50, true},
		// a now at and below At fills nothing, and At stays
		{impl.Bucket{Burst: 3, Rate: 2, Have: 999, At: 40}, 40, 999, 40, false},
		{impl.Bucket{Burst: 3, Rate: 2, Have: 999, At: 40}, 39, 999, 40, false},
		{impl.Bucket{Burst: 3, Rate: 2, Have: 999, At: 40}, 41, 1, 41, true},
		{impl.Bucket{Burst: 3, Rate: 2, Have: 1000, At: 40}, 40, 0, 40, true},
		{impl.Bucket{Burst: 3, Rate: 2, Have: 1000, At: 40}, 39, 0, 40, true},
		{impl.Bucket{Burst: 3, Rate: 2, Have: 1000, At: 40}, 0, 0, 40, true},
		{impl.Bucket{Burst: 3, Rate: 2, Have: 1001, At: 40}, 39, 1, 40, true},
		{impl.Bucket{Burst: 3, Rate: 2, Have: 999, At: impl.MaxTime}, 0, 999, impl.MaxTime, false},
		// nothing may be held
		{impl.Bucket{Rate: 2, At: 40}, 39, 0, 40, false},
		{impl.Bucket{Rate: 2, At: 40}, 40, 0, 40, false},
		{impl.Bucket{Rate: 2, At: 40}, 41, 0, 41, false},
		{impl.Bucket{Rate: impl.MaxRate}, impl.MaxTime, 0, impl.MaxTime, false},
		// nothing comes
		{impl.Bucket{Burst: 3, Have: 999}, impl.MaxTime, 999, impl.MaxTime, false},
		{impl.Bucket{Burst: 3, Have: 1000}, impl.MaxTime, 0, impl.MaxTime, true},
		// the ends of time and rate
		{impl.Bucket{Burst: impl.MaxBurst, Rate: impl.MaxRate}, impl.MaxTime, 999000, impl.MaxTime, true},
		{impl.Bucket{Burst: impl.MaxBurst, Rate: impl.MaxRate}, 0, 0, 0, false},
		{impl.Bucket{Burst: impl.MaxBurst, Rate: impl.MaxRate}, 1, 999000, 1, true},
		{impl.Bucket{}, 0, 0, 0, false},
		{impl.Bucket{}, 5, 0, 5, false},
	} {
		want := impl.Bucket{Burst: c.b.Burst, Rate: c.b.Rate, Have: c.have, At: c.then}
		if got, ok := impl.Take(c.b, c.now); got != want || ok != c.ok {
			t.Errorf("Take(%+v, %d) = %+v, %v, want %+v, %v", c.b, c.now, got, ok, want, c.ok)
		}
	}
}

func TestWhen(t *testing.T) {
	const end = impl.MaxTime
	for _, c := range []struct {
		b         impl.Bucket
		now, want int
	}{
		// one is there already
		{impl.Bucket{Burst: 2, Rate: 100, Have: 1000, At: 9}, 5, 9},
		{impl.Bucket{Burst: 2, Rate: 100, Have: 1000, At: 9}, 8, 9},
		{impl.Bucket{Burst: 2, Rate: 100, Have: 1000, At: 9}, 9, 9},
		{impl.Bucket{Burst: 2, Rate: 100, Have: 1000, At: 9}, 10, 10},
		{impl.Bucket{Burst: 2, Have: 1000, At: 9}, 5, 9},
		{impl.Bucket{Burst: 2, Have: 2000, At: 9}, end, end},
		{impl.Bucket{Burst: 2, Have: 1000, At: end}, 0, end},
		{impl.Bucket{Burst: 1, Rate: 1, Have: 1000}, 0, 0},
		// the time to the next is whole
		{impl.Bucket{Burst: 2, Rate: 100, At: 9}, 0, 19},
		{impl.Bucket{Burst: 2, Rate: 100, At: 9}, 8, 19},
		{impl.Bucket{Burst: 2, Rate: 100, At: 9}, 9, 19},
		{impl.Bucket{Burst: 2, Rate: 100, At: 9}, 10, 19},
		{impl.Bucket{Burst: 2, Rate: 100, At: 9}, 18, 19},
		{impl.Bucket{Burst: 2, Rate: 100, At: 9}, 19, 19},
		{impl.Bucket{Burst: 2, Rate: 100, At: 9}, 20, 20},
		{impl.Bucket{Burst: 2, Rate: 100, At: 9}, end, end},
		{impl.Bucket{Burst: 2, Rate: 100, Have: 900, At: 9}, 9, 10},
		{impl.Bucket{Burst: 2, Rate: 1, Have: 999, At: 9}, 9, 10},
		{impl.Bucket{Burst: 2, Rate: 1, Have: 0, At: 0}, 0, 1000},
		{impl.Bucket{Burst: 2, Rate: 1000, At: 9}, 9, 10},
		// it leaves a rest
		{impl.Bucket{Burst: 2, Rate: 3, At: 9}, 0, 343},
		{impl.Bucket{Burst: 2, Rate: 3, At: 9}, 342, 343},
		{impl.Bucket{Burst: 2, Rate: 3, At: 9}, 343, 343},
		{impl.Bucket{Burst: 2, Rate: 3, Have: 1, At: 9}, 9, 342},
		{impl.Bucket{Burst: 2, Rate: 3, Have: 2, At: 9}, 9, 342},
		{impl.Bucket{Burst: 2, Rate: 100, Have: 899, At: 9}, 9, 11},
		{impl.Bucket{Burst: 2, Rate: 999, At: 9}, 9, 11},
		{impl.Bucket{Burst: 2, Rate: 1001, At: 9}, 9, 10},
		{impl.Bucket{Burst: 2, Rate: impl.MaxRate, At: 9}, 0, 10},
		{impl.Bucket{Burst: 1, Rate: impl.MaxRate, Have: 999, At: 9}, 9, 10},
		// none ever comes
		{impl.Bucket{Burst: 2, Have: 999, At: 9}, 5, -1},
		{impl.Bucket{Burst: 2, Have: 999, At: 9}, end, -1},
		{impl.Bucket{Burst: 1}, 5, -1},
		{impl.Bucket{Rate: 100, At: 9}, 5, -1},
		{impl.Bucket{Rate: impl.MaxRate}, 0, -1},
		{impl.Bucket{Rate: impl.MaxRate, At: end}, 0, -1},
		{impl.Bucket{}, 0, -1},
		{impl.Bucket{}, end, -1},
		// it would come just at the end of time, and just behind it
		{impl.Bucket{Burst: 2, Rate: 100, At: end - 10}, 0, end},
		{impl.Bucket{Burst: 2, Rate: 100, At: end - 10}, end, end},
		{impl.Bucket{Burst: 2, Rate: 100, At: end - 9}, 0, -1},
		{impl.Bucket{Burst: 2, Rate: 100, At: end - 9}, end, -1},
		{impl.Bucket{Burst: 2, Rate: 3, At: end - 334}, 0, end},
		{impl.Bucket{Burst: 2, Rate: 3, At: end - 333}, 0, -1},
		{impl.Bucket{Burst: 2, Rate: 3, Have: 1, At: end - 333}, 0, end},
		{impl.Bucket{Burst: 2, Rate: 1, At: end - 1000}, 0, end},
		{impl.Bucket{Burst: 2, Rate: 1, At: end - 999}, 0, -1},
		{impl.Bucket{Burst: 2, Rate: impl.MaxRate, At: end - 1}, 0, end},
		{impl.Bucket{Burst: 2, Rate: impl.MaxRate, At: end}, 0, -1},
		{impl.Bucket{Burst: 2, Rate: impl.MaxRate, Have: 999, At: end}, end, -1},
	} {
		if got := impl.When(c.b, c.now); got != c.want {
			t.Errorf("When(%+v, %d) = %d, want %d", c.b, c.now, got, c.want)
		}
	}
}

// answerNothing asks that all three calls refuse what isn't right.
func answerNothing(t *testing.T, name string, b impl.Bucket, now int) {
	t.Helper()
	if got := impl.Fill(b, now); got != (impl.Bucket{}) {
		t.Errorf("%s: Fill at %d = %+v, want nothing", name, now, got)
	}
	if got, ok := impl.Take(b, now); ok || got != (impl.Bucket{}) {
		t.Errorf("%s: Take at %d = %+v, %v, want nothing and false", name, now, got, ok)
	}
	if got := impl.When(b, now); got != -1 {
		t.Errorf("%s: When at %d = %d, want -1", name, now, got)
	}
}

func TestBucketsAtWrongInputs(t *testing.T) {
	for name, b := range wrongBuckets() {
		for _, now := range append([]int{0, 39, 40, 41, 5000, impl.MaxTime}, noTimes()...) {
			answerNothing(t, name, b, now)
		}
	}
	for name, b := range rightBuckets() {
		for _, now := range noTimes() {
			answerNothing(t, name, b, now)
		}
	}
}

// wantFill and wantTake say what the document says, with big numbers.
func wantFill(b impl.Bucket, now int) impl.Bucket {
	if now <= b.At {
		return b
	}
	have := big.NewInt(int64(now))
	have.Sub(have, big.NewInt(int64(b.At)))
	have.Mul(have, big.NewInt(int64(b.Rate)))
	have.Add(have, big.NewInt(int64(b.Have)))
	if full := big.NewInt(int64(b.Burst) * perToken); have.Cmp(full) > 0 {
		have = full
	}
	return impl.Bucket{Burst: b.Burst, Rate: b.Rate, Have: int(have.Int64()), At: now}
}

func wantTake(b impl.Bucket, now int) (impl.Bucket, bool) {
	filled := wantFill(b, now)
	if filled.Have < perToken {
		return filled, false
	}
	filled.Have -= perToken
	return filled, true
}

// someBucket has fields of every length, so that what is missing and what comes stand in all relations.
func someBucket(r *rand.Rand) impl.Bucket {
	upTo := func(most int) int { return r.Intn(1 + r.Intn(1+most)>>r.Intn(20)) }
	b := impl.Bucket{Burst: upTo(impl.MaxBurst), Rate: upTo(impl.MaxRate)}
	if r.Intn(2) == 0 {
		b.Burst = r.Intn(4)
	}
	b.Have = r.Intn(perToken*b.Burst+1) >> r.Intn(12)
	switch r.Intn(3) {
	case 0:
		b.At = upTo(impl.MaxTime)
	case 1:
		b.At = r.Intn(30)
	case 2:
		b.At = impl.MaxTime - upTo(2000)
	}
	return b
}

// timesAround are times at which something may change for a bucket: near At, near a token, near full, at both ends.
func timesAround(r *rand.Rand, b impl.Bucket) []int {
	l := []int{0, 1, impl.MaxTime - 1, impl.MaxTime, r.Intn(impl.MaxTime + 1)}
	mids := []int{b.At}
	if b.Rate > 0 {
		mids = append(mids, b.At+(perToken-b.Have)/b.Rate, b.At+(perToken*b.Burst-b.Have)/b.Rate, b.At+r.Intn(5000))
	}
	for _, mid := range mids {
		for near := mid - 2; near <= mid+2; near++ {
			if near >= 0 && near <= impl.MaxTime {
				l = append(l, near)
			}
		}
	}
	return l
}

func holdsWhatItMay(b impl.Bucket) bool {
	return b.Have >= 0 && b.Have <= perToken*b.Burst && impl.BucketOk(b)
}

// P8: whatever is filled in and taken out, a bucket never holds more than it may, nor less than nothing.
func TestBucketsEverywhere(t *testing.T) {
	r := rand.New(rand.NewSource(6))
	for range 4000 {
		b := someBucket(r)
		if !impl.BucketOk(b) {
			t.Fatalf("the test made a wrong bucket: %+v", b)
		}
		for _, now := range timesAround(r, b) {
			filled, want := impl.Fill(b, now), wantFill(b, now)
			if filled != want || !holdsWhatItMay(filled) {
				t.Fatalf("Fill(%+v, %d) = %+v, want %+v", b, now, filled, want)
			}
			taken, ok := impl.Take(b, now)
			want, wantOk := wantTake(b, now)
			if taken != want || ok != wantOk || !holdsWhatItMay(taken) {
				t.Fatalf("Take(%+v, %d) = %+v, %v, want %+v, %v", b, now, taken, ok, want, wantOk)
			}
		}
	}
}

// P8 along a run: a bucket never holds more than it may, and gives no more than it held at first and what came.
func TestABucketInUse(t *testing.T) {
	r := rand.New(rand.NewSource(7))
	for range 200 {
		b, _ := impl.BucketNew(r.Intn(5), r.Intn(400))
		first, now, given := b.Have, 0, 0
		for range 300 {
			now = max(0, now+r.Intn(12)-2)
			taken, ok := impl.Take(b, now)
			if ok {
				given++
			}
			if r.Intn(4) == 0 {
				taken = impl.Fill(taken, now+r.Intn(3))
			}
			if !holdsWhatItMay(taken) || taken.At < b.At || taken.Burst != b.Burst || taken.Rate != b.Rate {
				t.Fatalf("behind %+v at %d comes %+v", b, now, taken)
			}
			b = taken
			if perToken*given+b.Have > first+b.Rate*b.At {
				t.Fatalf("%d tokens were given up to %d: %+v", given, b.At, b)
			}
		}
	}
}

// P8: filling in two steps is filling in one, as nothing is lost between.
func TestFillInSteps(t *testing.T) {
	r := rand.New(rand.NewSource(8))
	for range 1000 {
		b := someBucket(r)
		times := timesAround(r, b)
		for _, mid := range times {
			for _, now := range times {
				if now < mid {
					continue
				}
				if got, want := impl.Fill(impl.Fill(b, mid), now), impl.Fill(b, now); got != want {
					t.Fatalf("Fill(%+v) at %d and %d = %+v, at once %+v", b, mid, now, got, want)
				}
			}
		}
	}
}

// P8: a token comes at the time that When tells and at none ahead of it, each time asked one by one.
func TestWhenTellsTheFirstTime(t *testing.T) {
	const most = 2100 // behind this time no bucket of this test gets its first token
	for _, burst := range []int{0, 1, 2} {
		for _, rate := range []int{0, 1, 2, 3, 7, 100, 333, 999, 1000, 1001, impl.MaxRate} {
			for _, have := range []int{0, 1, 2, 500, 998, 999, 1000, 1001, 2000} {
				for _, at := range []int{0, 1, 40} {
					b := impl.Bucket{Burst: burst, Rate: rate, Have: min(have, perToken*burst), At: at}
					for _, now := range []int{0, 1, at, at + 1, at + 9, at + 10, 333, 1000, 1039, 1040, 1041} {
						checkWhen(t, b, now, most)
					}
				}
			}
		}
	}
}

func checkWhen(t *testing.T, b impl.Bucket, now int, most int) {
	t.Helper()
	told := impl.When(b, now)
	first := max(now, b.At)
	if b.Have < perToken {
		first = now // a bucket without a token has none ahead of At either
	}
	for at := first; at <= most && at != told; at++ {
		if _, ok := impl.Take(b, at); ok {
			t.Fatalf("When(%+v, %d) = %d, but Take says true at %d", b, now, told, at)
		}
	}
	if told == -1 {
		if _, ok := impl.Take(b, impl.MaxTime); ok {
			t.Fatalf("When(%+v, %d) = -1, but Take says true at the end", b, now)
		}
		return
	}
	if _, ok := impl.Take(b, told); !ok || told < now || told < b.At || told > most {
		t.Fatalf("When(%+v, %d) = %d, where Take says %v", b, now, told, ok)
	}
}

// The same at the last times there are: -1 where the end comes ahead of the token.
func TestWhenAtTheEndOfTime(t *testing.T) {
	for _, rate := range []int{0, 1, 3, 7, 100, 999, 1000, impl.MaxRate} {
		for _, have := range []int{0, 1, 500, 900, 998, 999, 1000} {
			for before := range 1010 {
				if before > 20 && before%67 != 0 && before < 990 {
					continue
				}
				b := impl.Bucket{Burst: 1, Rate: rate, Have: have, At: impl.MaxTime - before}
				for _, now := range []int{b.At, impl.MaxTime - before/2, impl.MaxTime} {
					checkWhen(t, b, now, impl.MaxTime)
				}
			}
		}
	}
}

// And at buckets of every size: just ahead of the time that is told there is none.
func TestWhenEverywhere(t *testing.T) {
	r := rand.New(rand.NewSource(9))
	never, later := 0, 0
	for range 4000 {
		b := someBucket(r)
		for _, now := range timesAround(r, b) {
			first, told := max(now, b.At), impl.When(b, now)
			_, atOnce := impl.Take(b, first)
			_, atLast := impl.Take(b, impl.MaxTime)
			switch {
			case told == -1:
				never++
				if atOnce || atLast {
					t.Fatalf("When(%+v, %d) = -1, but there is one", b, now)
				}
			case told == first:
				if !atOnce {
					t.Fatalf("When(%+v, %d) = %d, but there is none", b, now, told)
				}
			default:
				later++
				_, early := impl.Take(b, told-1)
				_, then := impl.Take(b, told)
				if told < first || told > impl.MaxTime || early || !then {
					t.Fatalf("When(%+v, %d) = %d, Take says %v ahead of it, %v then", b, now, told, early, then)
				}
			}
		}
	}
	if never == 0 || later == 0 {
		t.Errorf("the test met %d buckets that never and %d that later have a token", never, later)
	}
}

// Chapter 1: no argument is changed, and what a call answers hangs on its arguments alone.
func TestBucketsAreLeftAlone(t *testing.T) {
	for _, buckets := range []map[string]impl.Bucket{rightBuckets(), wrongBuckets()} {
		for name, b := range buckets {
			for _, now := range []int{minInt, -1, 0, 39, 40, 41, 500, impl.MaxTime, impl.MaxTime + 1, impl.MaxInt} {
				before := b
				filled := impl.Fill(b, now)
				taken, ok := impl.Take(b, now)
				told := impl.When(b, now)
				impl.BucketOk(b)
				impl.Take(impl.Bucket{Burst: 7, Rate: 7, Have: 7000, At: 7}, 70)
				again, okAgain := impl.Take(b, now)
				if b != before {
					t.Errorf("%s: a call at %d changed the bucket to %+v", name, now, b)
				}
				if impl.Fill(b, now) != filled || again != taken || okAgain != ok || impl.When(b, now) != told {
					t.Errorf("%s: a second call at %d answers something else", name, now)
				}
			}
		}
	}
}
