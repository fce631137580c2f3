package tests

import (
	"fmt"
	"math/big"
	"math/rand"
	"testing"

	"loop.example/g00685/impl"
)

const mostAvg = impl.MaxLat * impl.Unit

func cfgOf(kind int, least int, most int) impl.LimCfg {
	return impl.LimCfg{Kind: kind, Min: least, Max: most, Span: 10, Slow: 50}
}

// limOf is a limit of that kind between 2 and 900, with a window of which some is old from 13 on.
func limOf(kind int, limit int) impl.Lim {
	return impl.Lim{Cfg: cfgOf(kind, 2, 900), Limit: limit, Good: 3, Avg: 20 * impl.Unit, Win: windowOf(10, [2]int{3, 5}, [2]int{4, 8})}
}

// with is a copy of a limit in which one thing is changed.
func with(l impl.Lim, change func(*impl.Lim)) impl.Lim {
	l.Win = copyWindow(l.Win)
	change(&l)
	return l
}

func sameLim(a impl.Lim, b impl.Lim) bool {
	return a.Cfg == b.Cfg && a.Limit == b.Limit && a.Good == b.Good && a.Avg == b.Avg && sameWindow(a.Win, b.Win)
}

func bothKinds() []int { return []int{impl.LmSteps, impl.LmSlope} }

func rightCfgs() map[string]impl.LimCfg {
	return map[string]impl.LimCfg{
		"steps":            {Kind: impl.LmSteps, Min: 2, Max: 20, Span: 10, Slow: 50},
		"slope":            {Kind: impl.LmSlope, Min: 2, Max: 20, Span: 10, Slow: 50},
		"min 1":            {Kind: impl.LmSteps, Min: 1, Max: 20, Span: 10, Slow: 50},
		"min just at max":  {Kind: impl.LmSlope, Min: 20, Max: 20, Span: 10, Slow: 50},
		"both 1":           {Kind: impl.LmSteps, Min: 1, Max: 1, Span: 10, Slow: 50},
		"both at the end":  {Kind: impl.LmSlope, Min: impl.MaxLimit, Max: impl.MaxLimit, Span: 10, Slow: 50},
		"from end to end":  {Kind: impl.LmSlope, Min: 1, Max: impl.MaxLimit, Span: 10, Slow: 50},
		"span 1":           {Kind: impl.LmSteps, Min: 2, Max: 20, Span: 1, Slow: 50},
		"the longest span": {Kind: impl.LmSteps, Min: 2, Max: 20, Span: impl.MaxSpan, Slow: 50},
		"slow 0":           {Kind: impl.LmSteps, Min: 2, Max: 20, Span: 10},
		"the slowest":      {Kind: impl.LmSlope, Min: 2, Max: 20, Span: 10, Slow: impl.MaxLat},
	}
}

// wrongCfgs are configurations of which LimCfgOk is false, each by one thing.
func wrongCfgs() map[string]impl.LimCfg {
	wrong := map[string]impl.LimCfg{
		"the zero one":           {},
		"kind 0":                 {Kind: 0, Min: 2, Max: 20, Span: 10, Slow: 50},
		"kind 3":                 {Kind: impl.LmSlope + 1, Min: 2, Max: 20, Span: 10, Slow: 50},
		"kind -1":                {Kind: -1, Min: 2, Max: 20, Span: 10, Slow: 50},
		"min 0":                  {Kind: impl.LmSteps, Min: 0, Max: 20, Span: 10, Slow: 50},
		"min -1":                 {Kind: impl.LmSteps, Min: -1, Max: 20, Span: 10, Slow: 50},
		"min one above max":      {Kind: impl.LmSteps, Min: 21, Max: 20, Span: 10, Slow: 50},
		"max one below min":      {Kind: impl.LmSlope, Min: 2, Max: 1, Span: 10, Slow: 50},
		"max above its end":      {Kind: impl.LmSteps, Min: 2, Max: impl.MaxLimit + 1, Span: 10, Slow: 50},
		"both above their end":   {Kind: impl.LmSteps, Min: impl.MaxLimit + 1, Max: impl.MaxLimit + 1, Span: 10, Slow: 50},
		"both 0":                 {Kind: impl.LmSteps, Span: 10, Slow: 50},
		"span 0":                 {Kind: impl.LmSteps, Min: 2, Max: 20, Span: 0, Slow: 50},
		"span above its end":     {Kind: impl.LmSteps, Min: 2, Max: 20, Span: impl.MaxSpan + 1, Slow: 50},
		"slow -1":                {Kind: impl.LmSteps, Min: 2, Max: 20, Span: 10, Slow: -1},
		"slow above its end":     {Kind: impl.LmSlope, Min: 2, Max: 20, Span: 10, Slow: impl.MaxLat + 1},
		"slow far above its end": {Kind: impl.LmSteps, Min: 2, Max: 20, Span: 10, Slow: mostAvg},
	}
	for _, far := range []int{minInt, impl.MaxInt} {
		for i, spoil := range cfgFields() {
			c := cfgOf(impl.LmSteps, 2, 20)
			*spoil(&c) = far
			wrong[fmt.Sprintf("field %d is %d", i, far)] = c
		}
		wrong[fmt.Sprintf("all fields are %d", far)] = impl.LimCfg{Kind: far, Min: far, Max: far, Span: far, Slow: far}
	}
	return wrong
}

func cfgFields() []func(*impl.LimCfg) *int {
	return []func(*impl.LimCfg) *int{
		func(c *impl.LimCfg) *int { return &c.Kind },
		func(c *impl.LimCfg) *int { return &c.Min },
		func(c *impl.LimCfg) *int { return &c.Max },
		func(c *impl.LimCfg) *int { return &c.Span },
		func(c *impl.LimCfg) *int { return &c.Slow },
	}
}

// rightLims are limits at the edges of what LimOk allows.
func rightLims() map[string]impl.Lim {
	right := map[string]impl.Lim{}
	for _, kind := range bothKinds() {
		base := limOf(kind, 30)
		for name, change := range map[string]func(*impl.Lim){
			"ordinary":            func(l *impl.Lim) {},
			"at min":              func(l *impl.Lim) { l.Limit = 2 },
			"at max":              func(l *impl.Lim) { l.Limit = 900 },
			"good 0":              func(l *impl.Lim) { l.Good = 0 },
			"good below limit":    func(l *impl.Lim) { l.Good = 28 },
			"good about to do":    func(l *impl.Lim) { l.Good = 29 },
			"good above limit":    func(l *impl.Lim) { l.Good = 31 },
			"the greatest good":   func(l *impl.Lim) { l.Good = impl.MaxLimit },
			"avg 0":               func(l *impl.Lim) { l.Avg = 0 },
			"avg 1":               func(l *impl.Lim) { l.Avg = 1 },
			"the greatest avg":    func(l *impl.Lim) { l.Avg = mostAvg },
			"no samples":          func(l *impl.Lim) { l.Win.Items = nil },
			"an empty list":       func(l *impl.Lim) { l.Win.Items = []impl.Sample{} },
			"a full window":       func(l *impl.Lim) { l.Cfg.Span, l.Win = impl.MaxSpan, steadyWindow(impl.MaxSpan, impl.MaxItems) },
			"span 1":              func(l *impl.Lim) { l.Cfg.Span, l.Win.Span = 1, 1 },
			"min and max alike":   func(l *impl.Lim) { l.Cfg.Min, l.Cfg.Max = 30, 30 },
			"between 1 and 1":     func(l *impl.Lim) { l.Cfg.Min, l.Cfg.Max, l.Limit = 1, 1, 1 },
			"all there is":        func(l *impl.Lim) { l.Cfg.Min, l.Cfg.Max, l.Limit = 1, impl.MaxLimit, impl.MaxLimit },
			"slow 0":              func(l *impl.Lim) { l.Cfg.Slow = 0 },
			"the slowest":         func(l *impl.Lim) { l.Cfg.Slow = impl.MaxLat },
			"samples at the ends": func(l *impl.Lim) { l.Win = windowOf(10, [2]int{0, 0}, [2]int{impl.MaxTime, impl.MaxLat}) },
		} {
			right[fmt.Sprintf("kind %d, %s", kind, name)] = with(base, change)
		}
	}
	return right
}

// wrongLims are limits of which LimOk is false, each by one thing.
func wrongLims() map[string]impl.Lim {
	base := limOf(impl.LmSteps, 30)
	slope := limOf(impl.LmSlope, 30)
	wrong := map[string]impl.Lim{
		"the zero limit":         {},
		"limit just below min":   with(base, func(l *impl.Lim) { l.Limit = 1 }),
		"limit 0":                with(base, func(l *impl.Lim) { l.Limit = 0 }),
		"limit just above max":   with(base, func(l *impl.Lim) { l.Limit = 901 }),
		"limit above min = max":  with(base, func(l *impl.Lim) { l.Cfg.Min, l.Cfg.Max = 29, 29 }),
		"limit below min = max":  with(slope, func(l *impl.Lim) { l.Cfg.Min, l.Cfg.Max = 31, 31 }),
		"good -1":                with(base, func(l *impl.Lim) { l.Good = -1 }),
		"good above its end":     with(slope, func(l *impl.Lim) { l.Good = impl.MaxLimit + 1 }),
		"avg -1":                 with(slope, func(l *impl.Lim) { l.Avg = -1 }),
		"avg above its end":      with(base, func(l *impl.Lim) { l.Avg = mostAvg + 1 }),
		"another span":           with(base, func(l *impl.Lim) { l.Win.Span = 11 }),
		"another span, no items": with(slope, func(l *impl.Lim) { l.Win = impl.Window{Span: 9} }),
		"no window":              with(slope, func(l *impl.Lim) { l.Win = impl.Window{} }),
	}
	for _, far := range []int{minInt, impl.MaxInt} {
		wrong[fmt.Sprintf("limit %d", far)] = with(base, func(l *impl.Lim) { l.Limit = far })
		wrong[fmt.Sprintf("good %d", far)] = with(base, func(l *impl.Lim) { l.Good = far })
		wrong[fmt.Sprintf("avg %d", far)] = with(slope, func(l *impl.Lim) { l.Avg = far })
		wrong[fmt.Sprintf("the window's span %d", far)] = with(slope, func(l *impl.Lim) { l.Win.Span = far })
	}
	for name, c := range wrongCfgs() {
		wrong["cfg: "+name] = with(base, func(l *impl.Lim) { l.Cfg, l.Limit, l.Win.Span = c, max(c.Min, 1), c.Span })
	}
	for name, w := range wrongWindows() {
		wrong["window: "+name] = with(slope, func(l *impl.Lim) { l.Win, l.Cfg.Span = w, min(max(w.Span, 1), impl.MaxSpan) })
	}
	return wrong
}

func TestLimitConstants(t *testing.T) {
	if impl.MaxLimit != 1000 || impl.LmSteps != 1 || impl.LmSlope != 2 {
		t.Error("a constant of chapter 5 isn't what the document says")
	}
}

func TestLimCfgOk(t *testing.T) {
	for name, c := range rightCfgs() {
		if !impl.LimCfgOk(c) {
			t.Errorf("%s: LimCfgOk says false", name)
		}
	}
	for name, c := range wrongCfgs() {
		if impl.LimCfgOk(c) {
			t.Errorf("%s: LimCfgOk says true", name)
		}
	}
}

// Every field at all its edges, beside all edges of the others.
func TestLimCfgOkAtAllEdges(t *testing.T) {
	ends := []int{minInt, -1, 0, 1, 2, 3, 999, 1000, 1001, impl.MaxInt}
	for _, kind := range []int{minInt, -1, 0, 1, 2, 3, 4, impl.MaxInt} {
		for _, least := range ends {
			for _, most := range ends {
				for _, span := range []int{minInt, -1, 0, 1, 2, 99999, 100000, 100001, impl.MaxInt} {
					for _, slow := range []int{minInt, -1, 0, 1, 999999, 1000000, 1000001, impl.MaxInt} {
						c := impl.LimCfg{Kind: kind, Min: least, Max: most, Span: span, Slow: slow}
						want := (kind == 1 || kind == 2) && 1 <= least && least <= most && most <= 1000 &&
							1 <= span && span <= 100000 && 0 <= slow && slow <= 1000000
						if got := impl.LimCfgOk(c); got != want {
							t.Errorf("LimCfgOk(%+v) = %v", c, got)
						}
					}
				}
			}
		}
	}
}

func TestLimOk(t *testing.T) {
	for name, l := range rightLims() {
		if !impl.LimOk(l) {
			t.Errorf("%s: LimOk says false", name)
		}
	}
	for name, l := range wrongLims() {
		if impl.LimOk(l) {
			t.Errorf("%s: LimOk says true", name)
		}
	}
}

func TestLimOkAtAllEdges(t *testing.T) {
	const least, most = 4, 7
	for _, kind := range []int{0, 1, 2, 3} {
		for _, limit := range []int{minInt, -1, 0, 3, 4, 5, 7, 8, 1000, impl.MaxInt} {
			for _, good := range []int{minInt, -1, 0, 1, 999, 1000, 1001, impl.MaxInt} {
				for _, avg := range []int{minInt, -1, 0, 1, 65535999999, 65536000000, 65536000001, impl.MaxInt} {
					for _, span := range []int{minInt, 0, 9, 10, 11, impl.MaxInt} {
						l := impl.Lim{Cfg: cfgOf(kind, least, most), Limit: limit, Good: good, Avg: avg, Win: windowOf(span, [2]int{3, 5})}
						want := (kind == 1 || kind == 2) && least <= limit && limit <= most && 0 <= good && good <= 1000 &&
							0 <= avg && avg <= 65536000000 && span == 10
						if got := impl.LimOk(l); got != want {
							t.Errorf("LimOk(%+v) = %v", l, got)
						}
					}
				}
			}
		}
	}
}

func TestLimNew(t *testing.T) {
	for name, c := range rightCfgs() {
		for _, start := range []int{c.Min, c.Min + (c.Max-c.Min)/2, c.Max} {
			want := impl.Lim{Cfg: c, Limit: start, Win: impl.Window{Span: c.Span}}
			if l, ok := impl.LimNew(c, start); !ok || !sameLim(l, want) || !impl.LimOk(l) {
				t.Errorf("%s: LimNew at %d = %+v, %v", name, start, l, ok)
			}
		}
		for _, start := range []int{minInt, -1, 0, c.Min - 1, c.Max + 1, impl.MaxLimit + 1, impl.MaxInt} {
			if l, ok := impl.LimNew(c, start); ok || !sameLim(l, impl.Lim{}) {
				t.Errorf("%s: LimNew at %d = %+v, %v, want nothing and false", name, start, l, ok)
			}
		}
	}
	for name, c := range wrongCfgs() {
		for _, start := range []int{minInt, 0, 1, 2, 10, c.Min, c.Max, impl.MaxInt} {
			if l, ok := impl.LimNew(c, start); ok || !sameLim(l, impl.Lim{}) {
				t.Errorf("%s: LimNew at %d = %+v, %v, want nothing and false", name, start, l, ok)
			}
		}
	}
}

func TestBack(t *testing.T) {
	for _, c := range []struct{ least, most, limit, want int }{
		// 9 / 10 of it is whole, and leaves a rest
		{1, 1000, 10, 9},
		{1, 1000, 20, 18},
		{1, 1000, 100, 90},
		{1, 1000, 1000, 900},
		{1, 1000, 11, 9},
		{1, 1000, 12, 10},
		{1, 1000, 15, 13},
		{1, 1000, 19, 17},
		{1, 1000, 999, 899},
		// small ones
		{1, 1000, 1, 1},
		{1, 1000, 2, 1},
		{1, 1000, 3, 2},
		{1, 1000, 9, 8},
		// just at min, and below it
		{9, 1000, 10, 9},
		{10, 1000, 11, 10},
		{10, 1000, 12, 10},
		{10, 1000, 10, 10},
		{95, 1000, 100, 95},
		// min and max alike
		{1, 1, 1, 1},
		{30, 30, 30, 30},
		{1000, 1000, 1000, 1000},
	} {
		for _, kind := range bothKinds() {
			for _, good := range []int{0, 1, 7, impl.MaxLimit} {
				given := with(limOf(kind, c.limit), func(l *impl.Lim) { l.Cfg.Min, l.Cfg.Max, l.Good = c.least, c.most, good })
				want := with(given, func(l *impl.Lim) { l.Limit, l.Good = c.want, 0 })
				if got := impl.Back(given); !sameLim(got, want) {
					t.Errorf("Back(%+v) = %+v, want %+v", given, got, want)
				}
			}
		}
	}
}

func TestSteps(t *testing.T) {
	for _, c := range []struct {
		least, most, slow, limit, good int
		lat                            int
		wantLimit, wantGood            int
	}{
		// just at Slow, and one more
		{2, 20, 50, 10, 3, 50, 10, 4},
		{2, 20, 50, 10, 3, 51, 9, 0},
		{2, 20, 50, 10, 3, 0, 10, 4},
		{2, 20, 50, 10, 3, impl.MaxLat, 9, 0},
		{2, 20, 0, 10, 3, 0, 10, 4},
		{2, 20, 0, 10, 3, 1, 9, 0},
		{2, 20, impl.MaxLat, 10, 3, impl.MaxLat, 10, 4},
		{2, 20, impl.MaxLat - 1, 10, 3, impl.MaxLat, 9, 0},
		{10, 20, 50, 10, 3, 51, 10, 0},
		// Good comes to just below Limit, just to it, and is above it
		{2, 20, 50, 10, 0, 5, 10, 1},
		{2, 20, 50, 10, 7, 5, 10, 8},
		{2, 20, 50, 10, 8, 5, 10, 9},
		{2, 20, 50, 10, 9, 5, 11, 0},
		{2, 20, 50, 10, 10, 5, 11, 0},
		{2, 20, 50, 10, 11, 5, 11, 0},
		{2, 20, 50, 10, impl.MaxLimit - 1, 5, 11, 0},
		{2, 20, 50, 10, impl.MaxLimit, 5, 11, 0},
		{1, 20, 50, 1, 0, 5, 2, 0},
		{1, 20, 50, 2, 0, 5, 2, 1},
		{1, 20, 50, 2, 1, 5, 3, 0},
		// at Max
		{2, 20, 50, 19, 18, 5, 20, 0},
		{2, 20, 50, 20, 18, 5, 20, 19},
		{2, 20, 50, 20, 19, 5, 20, 0},
		{2, 20, 50, 20, impl.MaxLimit, 5, 20, 0},
		{2, 20, 50, 20, impl.MaxLimit, 51, 18, 0},
		{1, 1, 50, 1, 0, 5, 1, 0},
		{7, 7, 50, 7, 6, 5, 7, 0},
		{7, 7, 50, 7, 6, 51, 7, 0},
		{1, impl.MaxLimit, 50, impl.MaxLimit, impl.MaxLimit - 2, 5, impl.MaxLimit, impl.MaxLimit - 1},
		{1, impl.MaxLimit, 50, impl.MaxLimit, impl.MaxLimit - 1, 5, impl.MaxLimit, 0},
		{1, impl.MaxLimit, 50, impl.MaxLimit, impl.MaxLimit, 5, impl.MaxLimit, 0},
		{1, impl.MaxLimit, 50, impl.MaxLimit - 1, impl.MaxLimit, 5, impl.MaxLimit, 0},
	} {
		for _, kind := range bothKinds() { // a sample may be counted so whatever the kind is
			given := with(limOf(kind, c.limit), func(l *impl.Lim) {
				l.Cfg.Min, l.Cfg.Max, l.Cfg.Slow, l.Good = c.least, c.most, c.slow, c.good
			})
			want := with(given, func(l *impl.Lim) { l.Limit, l.Good = c.wantLimit, c.wantGood })
			if got := impl.Steps(given, c.lat); !sameLim(got, want) {
				t.Errorf("Steps(%+v, %d) = %+v, want %+v", given, c.lat, got, want)
			}
		}
	}
}

// slopeCase is a sample for LmSlope, and what comes of it; Span is 10.
type slopeCase struct {
	least, most, limit, avg int
	items                   [][2]int
	now, lat                int
	wantLimit, wantAvg      int
	wantItems               [][2]int
}

func checkSlope(t *testing.T, c slopeCase) {
	t.Helper()
	for _, kind := range bothKinds() { // a sample may be counted so whatever the kind is
		for _, good := range []int{0, 3, impl.MaxLimit} { // Good stays
			given := impl.Lim{Cfg: cfgOf(kind, c.least, c.most), Limit: c.limit, Good: good, Avg: c.avg, Win: windowOf(10, c.items...)}
			want := with(given, func(l *impl.Lim) { l.Limit, l.Avg, l.Win = c.wantLimit, c.wantAvg, windowOf(10, c.wantItems...) })
			if got := impl.Slope(given, c.now, c.lat); !sameLim(got, want) {
				t.Errorf("Slope(%+v, %d, %d) = %+v, want %+v", given, c.now, c.lat, got, want)
			}
		}
	}
}

func TestSlope(t *testing.T) {
	const u, end = impl.Unit, impl.MaxTime
	for _, c := range []slopeCase{
		// the first sample is the mean itself, and the least: g is Unit
		{1, 1000, 1, 0, nil, 5, 0, 1, 0, [][2]int{{5, 0}}},
		{1, 1000, 16, 0, nil, 5, 20, 16, 20 * u, [][2]int{{5, 20}}},
		{1, 1000, 63, 0, nil, 0, 20, 63, 20 * u, [][2]int{{0, 20}}},
		{1, 1000, 64, 0, nil, 5, 20, 65, 20 * u, [][2]int{{5, 20}}},
		{1, 1000, 64, 0, nil, end, 0, 65, 0, [][2]int{{end, 0}}},
		{1, 1000, 64, 0, nil, 5, impl.MaxLat, 65, mostAvg, [][2]int{{5, impl.MaxLat}}},
		{1, 1000, 100, 0, nil, 5, 20, 101, 20 * u, [][2]int{{5, 20}}},
		{1, 1000, 992, 0, nil, 5, 20, 995, 20 * u, [][2]int{{5, 20}}},
		// a mean that isn't 0 moves an eighth of the way, rounded towards 0
		{1, 1000, 16, 20 * u, [][2]int{{3, 20}}, 6, 100, 15, 30 * u, [][2]int{{3, 20}, {6, 100}}},
		{1, 1000, 64, 100 * u, nil, 6, 20, 61, 90 * u, [][2]int{{6, 20}}},
		{1, 1000, 64, 1, nil, 6, 0, 65, 1, [][2]int{{6, 0}}},
		{1, 1000, 64, 8, nil, 6, 0, 65, 7, [][2]int{{6, 0}}},
		{1, 1000, 64, 15, nil, 6, 0, 65, 14, [][2]int{{6, 0}}},
		{1, 1000, 64, 1, nil, 6, 1, 65, 1 + 8191, [][2]int{{6, 1}}},
		{1, 1000, 64, mostAvg, nil, 6, impl.MaxLat, 65, mostAvg, [][2]int{{6, impl.MaxLat}}},
		{1, 1000, 100, mostAvg, nil, 6, 0, 95, mostAvg - mostAvg/8, [][2]int{{6, 0}}},
		// with a mean of 0 an old sample counts in the window alone
		{1, 1000, 64, 0, [][2]int{{3, 9}}, 6, 19, 61, 19 * u, [][2]int{{3, 9}, {6, 19}}},
		// g would be above Unit
		{1, 1000, 64, 1, nil, 6, 1000, 65, 8192000, [][2]int{{6, 1000}}},
		{1, 1000, 64, 20 * u, [][2]int{{3, 30}}, 6, 40, 65, 22*u + u/2, [][2]int{{3, 30}, {6, 40}}},
		{1, 1000, 1000, 1, nil, 6, impl.MaxLat, 1000, 1 + (mostAvg-1)/8, [][2]int{{6, impl.MaxLat}}},
		// g would be below Unit / 2
		{1, 1000, 100, mostAvg, [][2]int{{3, 0}}, 6, impl.MaxLat, 95, mostAvg, [][2]int{{3, 0}, {6, impl.MaxLat}}},
		{1, 1000, 2, mostAvg, [][2]int{{3, 0}}, 6, impl.MaxLat, 2, mostAvg, [][2]int{{3, 0}, {6, impl.MaxLat}}},
		{1, 1000, 3, mostAvg, [][2]int{{3, 0}}, 6, impl.MaxLat, 2, mostAvg, [][2]int{{3, 0}, {6, impl.MaxLat}}},
		{1, 1000, 990, mostAvg, [][2]int{{3, 0}}, 6, impl.MaxLat, 932, mostAvg, [][2]int{{3, 0}, {6, impl.MaxLat}}},
		// g about Unit / 2: 6 against 11, 12 and 13
		{1, 1000, 1000, 10 * u, [][2]int{{3, 5}}, 6, 10, 947, 10 * u, [][2]int{{3, 5}, {6, 10}}},
		{1, 1000, 1000, 11 * u, [][2]int{{3, 5}}, 6, 11, 941, 11 * u, [][2]int{{3, 5}, {6, 11}}},
		{1, 1000, 1000, 12 * u, [][2]int{{3, 5}}, 6, 12, 941, 12 * u, [][2]int{{3, 5}, {6, 12}}},
		// g about Unit: 10 against 9, 10 and 11; what a mean has beyond whole ones doesn't count
		{1, 1000, 64, 8 * u, [][2]int{{3, 9}}, 6, 10, 65, 8*u + u/4, [][2]int{{3, 9}, {6, 10}}},
		{1, 1000, 64, 9*u + 7, [][2]int{{3, 9}}, 6, 10, 65, 9*u + 7 + 8191, [][2]int{{3, 9}, {6, 10}}},
		{1, 1000, 64, 10 * u, [][2]int{{3, 9}}, 6, 10, 64, 10 * u, [][2]int{{3, 9}, {6, 10}}},
		// the new limit would be below Min, just at it, above Max, just at it
		{96, 1000, 100, mostAvg, [][2]int{{3, 0}}, 6, impl.MaxLat, 96, mostAvg, [][2]int{{3, 0}, {6, impl.MaxLat}}},
		{95, 1000, 100, mostAvg, [][2]int{{3, 0}}, 6, impl.MaxLat, 95, mostAvg, [][2]int{{3, 0}, {6, impl.MaxLat}}},
		{100, 1000, 100, mostAvg, [][2]int{{3, 0}}, 6, impl.MaxLat, 100, mostAvg, [][2]int{{3, 0}, {6, impl.MaxLat}}},
		{1, 100, 100, 0, nil, 6, 7, 100, 7 * u, [][2]int{{6, 7}}},
		{1, 101, 100, 0, nil, 6, 7, 101, 7 * u, [][2]int{{6, 7}}},
		{1, 1000, 1000, 0, nil, 6, 7, 1000, 7 * u, [][2]int{{6, 7}}},
		{100, 100, 100, 0, nil, 6, 7, 100, 7 * u, [][2]int{{6, 7}}},
		{100, 100, 100, mostAvg, [][2]int{{3, 0}}, 6, impl.MaxLat, 100, mostAvg, [][2]int{{3, 0}, {6, impl.MaxLat}}},
	} {
		checkSlope(t, c)
	}
}

func TestSlopeAndTheWindow(t *testing.T) {
	const u = impl.Unit
	for _, c := range []slopeCase{
		// the least sample is one younger than Span, and just as old
		{1, 1000, 100, 20 * u, [][2]int{{3, 5}}, 12, 40, 95, 22*u + u/2, [][2]int{{3, 5}, {12, 40}}},
		{1, 1000, 100, 20 * u, [][2]int{{3, 5}}, 13, 40, 101, 22*u + u/2, [][2]int{{13, 40}}},
		{1, 1000, 100, 20 * u, [][2]int{{3, 5}, {4, 8}}, impl.MaxTime, 40, 101, 22*u + u/2, [][2]int{{impl.MaxTime, 40}}},
		// the first is too old, the next is the least then
		{1, 1000, 100, 20 * u, [][2]int{{3, 5}, {4, 14}}, 13, 40, 96, 22*u + u/2, [][2]int{{4, 14}, {13, 40}}},
		// now is below the last sample's time: a greater one isn't put in, a lesser one is
		{1, 1000, 100, 20 * u, [][2]int{{50, 9}}, 40, 20, 95, 20 * u, [][2]int{{50, 9}}},
		{1, 1000, 100, 20 * u, [][2]int{{50, 14}}, 40, 20, 97, 20 * u, [][2]int{{50, 14}}},
		{1, 1000, 100, 20 * u, [][2]int{{50, 14}}, 0, 20, 97, 20 * u, [][2]int{{50, 14}}},
		{1, 1000, 100, 20 * u, [][2]int{{50, 14}}, 50, 20, 97, 20 * u, [][2]int{{50, 14}}},
		{1, 1000, 100, 20 * u, [][2]int{{50, 14}}, 51, 20, 97, 20 * u, [][2]int{{50, 14}, {51, 20}}},
		{1, 1000, 100, 20 * u, [][2]int{{50, 30}}, 40, 20, 101, 20 * u, [][2]int{{40, 20}}},
		{1, 1000, 100, 20 * u, [][2]int{{50, 4}, {55, 60}}, 52, 20, 95, 20 * u, [][2]int{{50, 4}, {52, 20}}},
		// below it, and the first one is younger than Span at now but not at the last sample's time
		{1, 1000, 100, 20 * u, [][2]int{{30, 9}, {50, 14}}, 39, 20, 95, 20 * u, [][2]int{{30, 9}, {50, 14}}},
		{1, 1000, 100, 20 * u, [][2]int{{30, 9}, {50, 14}}, 40, 20, 97, 20 * u, [][2]int{{50, 14}}},
		// what isn't below the sample goes
		{1, 1000, 100, 20 * u, [][2]int{{3, 5}, {4, 20}, {5, 30}}, 6, 20, 95, 20 * u, [][2]int{{3, 5}, {6, 20}}},
		{1, 1000, 64, 20 * u, [][2]int{{3, 20}, {4, 30}}, 6, 20, 65, 20 * u, [][2]int{{6, 20}}},
	} {
		checkSlope(t, c)
	}
}

func TestSlopeWithAFullWindow(t *testing.T) {
	const most = impl.MaxItems
	full := steadyWindow(impl.MaxSpan, most)
	for i := range full.Items {
		full.Items[i].Lat = 100 + i
	}
	full.Items[0].Lat = 0
	given := impl.Lim{Cfg: cfgOf(impl.LmSlope, 1, 1000), Limit: 1000, Avg: 120 * impl.Unit, Win: full}
	given.Cfg.Span = impl.MaxSpan
	for _, c := range []struct {
		what            string
		now, lat, limit int
		avg             int
		items           []impl.Sample
	}{
		// 102 against 156, since the 0 goes for want of room
		{"a greater one behind", most + 1, 400, 960, 155 * impl.Unit, append(copyWindow(full).Items[1:], impl.Sample{At: most + 1, Lat: 400})},
		// 1 against 156, since nothing goes
		{"a greater one at the last time", most, 400, 941, 155 * impl.Unit, full.Items},
		{"one like the last", most + 1, 99 + most, 941, 120*impl.Unit + 179*impl.Unit/8, append(copyWindow(full).Items[:most-1], impl.Sample{At: most + 1, Lat: 99 + most})},
		// 1 against 106
		{"the least", most + 1, 0, 941, 105 * impl.Unit, []impl.Sample{{At: most + 1, Lat: 0}}},
	} {
		want := impl.Lim{Cfg: given.Cfg, Limit: c.limit, Avg: c.avg, Win: impl.Window{Span: impl.MaxSpan, Items: c.items}}
		if got := impl.Slope(given, c.now, c.lat); !sameLim(got, want) {
			t.Errorf("%s: Slope of a full window = %+v, want %+v", c.what, got, want)
		}
	}
}

func TestLearn(t *testing.T) {
	for _, lat := range []int{0, 5, 50, 51, 60, impl.MaxLat} {
		for _, now := range []int{0, 3, 4, 5, 13, impl.MaxTime} {
			for _, limit := range []int{2, 3, 30, 64, 900} {
				steps, slope := limOf(impl.LmSteps, limit), limOf(impl.LmSlope, limit)
				if got, want := impl.Learn(steps, now, lat, true), wantSteps(steps, lat); !sameLim(got, want) {
					t.Errorf("Learn(%+v, %d, %d, true) = %+v, want %+v", steps, now, lat, got, want)
				}
				if got, want := impl.Learn(slope, now, lat, true), wantSlope(slope, now, lat); !sameLim(got, want) {
					t.Errorf("Learn(%+v, %d, %d, true) = %+v, want %+v", slope, now, lat, got, want)
				}
				for _, l := range []impl.Lim{steps, slope} {
					if got, want := impl.Learn(l, now, lat, false), wantBack(l); !sameLim(got, want) {
						t.Errorf("Learn(%+v, %d, %d, false) = %+v, want %+v", l, now, lat, got, want)
					}
				}
			}
		}
	}
}

// Both kinds see the same sample in another way, and what failed in a third.
func TestLearnByKind(t *testing.T) {
	for _, c := range []struct {
		kind, lat             int
		ok                    bool
		limit, good, avg, len int
	}{
		{impl.LmSteps, 40, true, 64, 4, 20 * impl.Unit, 2},
		{impl.LmSteps, 60, true, 57, 0, 20 * impl.Unit, 2},
		{impl.LmSteps, 40, false, 57, 0, 20 * impl.Unit, 2},
		{impl.LmSlope, 40, true, 61, 3, 22*impl.Unit + impl.Unit/2, 3},
		{impl.LmSlope, 60, true, 61, 3, 25 * impl.Unit, 3},
		{impl.LmSlope, 40, false, 57, 0, 20 * impl.Unit, 2},
		{impl.LmSlope, 0, false, 57, 0, 20 * impl.Unit, 2},
	} {
		got := impl.Learn(limOf(c.kind, 64), 6, c.lat, c.ok)
		if got.Limit != c.limit || got.Good != c.good || got.Avg != c.avg || len(got.Win.Items) != c.len {
			t.Errorf("kind %d: Learn of %d, %v = %+v, want %+v", c.kind, c.lat, c.ok, got, c)
		}
	}
}

// limCall is a call that answers a limit for a limit; it says whether it looks at the time and at the latency.
type limCall struct {
	name           string
	timed, sampled bool
	call           func(l impl.Lim, now int, lat int) impl.Lim
}

func limCalls() []limCall {
	return []limCall{
		{"Back", false, false, func(l impl.Lim, now int, lat int) impl.Lim { return impl.Back(l) }},
		{"Steps", false, true, func(l impl.Lim, now int, lat int) impl.Lim { return impl.Steps(l, lat) }},
		{"Slope", true, true, impl.Slope},
		{"Learn of what went well", true, true, func(l impl.Lim, now int, lat int) impl.Lim { return impl.Learn(l, now, lat, true) }},
		{"Learn of what failed", true, true, func(l impl.Lim, now int, lat int) impl.Lim { return impl.Learn(l, now, lat, false) }},
	}
}

func TestLimitsAtWrongInputs(t *testing.T) {
	nows := append([]int{0, 6, impl.MaxTime}, noTimes()...)
	lats := append([]int{0, 5, 60, impl.MaxLat}, noLatencies()...)
	for name, l := range wrongLims() {
		for _, c := range limCalls() {
			for _, now := range nows {
				for _, lat := range lats {
					if got := c.call(l, now, lat); !sameLim(got, impl.Lim{}) {
						t.Errorf("%s: %s at %d of %d = %+v, want nothing", name, c.name, now, lat, got)
					}
				}
			}
		}
	}
}

func TestLimitsAtWrongTimesAndLatencies(t *testing.T) {
	nows := []int{minInt, -1, 0, 1, impl.MaxTime - 1, impl.MaxTime, impl.MaxTime + 1, impl.MaxInt}
	lats := []int{minInt, -1, 0, 1, impl.MaxLat - 1, impl.MaxLat, impl.MaxLat + 1, impl.MaxInt}
	for name, l := range rightLims() {
		for _, c := range limCalls() {
			for _, now := range nows {
				for _, lat := range lats {
					refused := c.timed && (now < 0 || now > 1000000000) || c.sampled && (lat < 0 || lat > 1000000)
					got := c.call(l, now, lat)
					if refused && !sameLim(got, impl.Lim{}) {
						t.Errorf("%s: %s at %d of %d = %+v, want nothing", name, c.name, now, lat, got)
					}
					if !refused && !impl.LimOk(got) {
						t.Errorf("%s: %s at %d of %d = %+v, which isn't right", name, c.name, now, lat, got)
					}
				}
			}
		}
	}
}

// wantBack, wantSteps and wantSlope say what the document says of right arguments, number by number.
func wantBack(l impl.Lim) impl.Lim {
	nine := 0
	for 10*(nine+1) <= 9*l.Limit {
		nine++
	}
	return with(l, func(l *impl.Lim) { l.Limit, l.Good = max(nine, l.Cfg.Min), 0 })
}

func wantSteps(l impl.Lim, lat int) impl.Lim {
	if lat > l.Cfg.Slow {
		return wantBack(l)
	}
	if l.Good+1 < l.Limit {
		return with(l, func(l *impl.Lim) { l.Good++ })
	}
	return with(l, func(l *impl.Lim) { l.Limit, l.Good = min(l.Limit+1, l.Cfg.Max), 0 })
}

func wantSlope(l impl.Lim, now int, lat int) impl.Lim {
	win := wantPush(l.Win, now, lat)
	least := wantTrim(win, now).Items[0].Lat
	avg := lat * impl.Unit
	if l.Avg != 0 {
		avg = wantMean(l.Avg, lat, 8192)
	}
	g := min(max(wantShare(least+1, 65536, avg/65536+1), 32768), 65536)
	root := int(new(big.Int).Sqrt(big.NewInt(int64(l.Limit))).Int64())
	limit := (7*l.Limit + wantShare(l.Limit, g, 65536) + root) / 8
	return with(l, func(l *impl.Lim) {
		l.Win, l.Avg, l.Limit = win, avg, min(max(limit, l.Cfg.Min), l.Cfg.Max)
	})
}

// someLim has a limit, ends and a mean of every size, and a window that fits some of the samples to come.
func someLim(r *rand.Rand) impl.Lim {
	w := someWindow(r)
	c := impl.LimCfg{Kind: 1 + r.Intn(2), Span: w.Span, Slow: r.Intn(40)}
	c.Min = 1 + r.Intn(impl.MaxLimit)>>r.Intn(10)
	c.Max = c.Min + r.Intn(impl.MaxLimit-c.Min+1)>>r.Intn(4)
	l := impl.Lim{Cfg: c, Limit: c.Min + r.Intn(c.Max-c.Min+1), Win: w}
	switch r.Intn(3) {
	case 0:
		l.Good = r.Intn(impl.MaxLimit + 1)
	case 1:
		l.Good = min(max(0, l.Limit-3+r.Intn(5)), impl.MaxLimit)
	}
	switch r.Intn(4) {
	case 0:
		l.Avg = r.Intn(mostAvg + 1)
	case 1:
		l.Avg = r.Intn(60 * impl.Unit)
	case 2:
		l.Avg = r.Intn(60) * impl.Unit
	}
	return l
}

func betweenItsEnds(l impl.Lim) bool {
	return l.Limit >= l.Cfg.Min && l.Limit <= l.Cfg.Max && impl.LimOk(l)
}

// P10, and P8: no limit that comes of a right one is below Min or above Max.
func TestLimitsEverywhere(t *testing.T) {
	r := rand.New(rand.NewSource(10))
	for range 3000 {
		l := someLim(r)
		if !impl.LimOk(l) {
			t.Fatalf("the test made a wrong limit: %+v", l)
		}
		if got, want := impl.Back(l), wantBack(l); !sameLim(got, want) || !betweenItsEnds(got) {
			t.Fatalf("Back(%+v) = %+v, want %+v", l, got, want)
		}
		for range 30 {
			now, lat := r.Intn(60), r.Intn(45)
			if r.Intn(8) == 0 {
				lat = r.Intn(impl.MaxLat + 1)
			}
			steps, slope := wantSteps(l, lat), wantSlope(l, now, lat)
			if got := impl.Steps(l, lat); !sameLim(got, steps) || !betweenItsEnds(got) {
				t.Fatalf("Steps(%+v, %d) = %+v, want %+v", l, lat, got, steps)
			}
			if got := impl.Slope(l, now, lat); !sameLim(got, slope) || !betweenItsEnds(got) {
				t.Fatalf("Slope(%+v, %d, %d) = %+v, want %+v", l, now, lat, got, slope)
			}
			want := steps
			if l.Cfg.Kind == impl.LmSlope {
				want = slope
			}
			if got := impl.Learn(l, now, lat, true); !sameLim(got, want) {
				t.Fatalf("Learn(%+v, %d, %d, true) = %+v, want %+v", l, now, lat, got, want)
			}
			if got, want := impl.Learn(l, now, lat, false), wantBack(l); !sameLim(got, want) {
				t.Fatalf("Learn(%+v, %d, %d, false) = %+v, want %+v", l, now, lat, got, want)
			}
		}
	}
}

// Every limit there is, against every g that its least latency and its mean make.
func TestSlopeOfEveryLimit(t *testing.T) {
	for limit := 1; limit <= impl.MaxLimit; limit++ {
		for least := range 24 {
			l := impl.Lim{Cfg: cfgOf(impl.LmSlope, 1, impl.MaxLimit), Limit: limit, Avg: 20 * impl.Unit, Win: windowOf(10, [2]int{3, least})}
			if got, want := impl.Slope(l, 6, 20), wantSlope(l, 6, 20); !sameLim(got, want) {
				t.Fatalf("Slope(%+v, 6, 20) = %+v, want %+v", l, got, want)
			}
		}
	}
}

// P8 along a run: a limit stays right and between its ends, whatever comes, and keeps its configuration.
func TestALimitInUse(t *testing.T) {
	r := rand.New(rand.NewSource(11))
	fell, rose := 0, 0
	for range 300 {
		c := impl.LimCfg{Kind: 1 + r.Intn(2), Min: 1 + r.Intn(20), Span: 1 + r.Intn(200), Slow: r.Intn(100)}
		c.Max = c.Min + r.Intn(200)
		l, ok := impl.LimNew(c, c.Min+r.Intn(c.Max-c.Min+1))
		if !ok {
			t.Fatalf("LimNew refuses %+v", c)
		}
		now, spread := 0, 1+r.Intn(300)
		for range 400 {
			now = max(0, now+r.Intn(20)-3)
			next := impl.Learn(l, now, r.Intn(spread), r.Intn(12) > 0)
			if next.Cfg != c || !betweenItsEnds(next) || next.Limit > l.Limit+4 || 10*(next.Limit+1) <= 9*l.Limit {
				t.Fatalf("behind %+v at %d comes %+v", l, now, next)
			}
			if next.Limit < l.Limit {
				fell++
			}
			if next.Limit > l.Limit {
				rose++
			}
			l = next
		}
	}
	if fell == 0 || rose == 0 {
		t.Errorf("of all limits %d fell and %d rose", fell, rose)
	}
}

// P8: what was fast never lowers a limit that goes by steps.
func TestWhatWasFastNeverLowers(t *testing.T) {
	for limit := 1; limit <= impl.MaxLimit; limit++ {
		for _, good := range []int{0, 1, max(0, limit-2), limit - 1, limit, impl.MaxLimit} {
			for _, slow := range []int{0, 50, impl.MaxLat} {
				l := impl.Lim{Cfg: cfgOf(impl.LmSteps, 1, impl.MaxLimit), Limit: limit, Good: good, Win: windowOf(10)}
				l.Cfg.Slow = slow
				for _, lat := range []int{0, slow / 2, slow} {
					if impl.Steps(l, lat).Limit < limit || impl.Learn(l, 6, lat, true).Limit < limit {
						t.Fatalf("%d, which isn't slow, lowers %+v", lat, l)
					}
				}
			}
		}
	}
}

// P8: what takes as long as ever never lowers a limit that goes by the slope, and from 64 on raises it up to its end.
func TestWhatIsSteadyNeverLowers(t *testing.T) {
	r := rand.New(rand.NewSource(12))
	for _, lat := range []int{0, 1, 2, 7, 50, 1000, impl.MaxLat - 1, impl.MaxLat} {
		for limit := 1; limit <= impl.MaxLimit; limit++ {
			l, _ := impl.LimNew(cfgOf(impl.LmSlope, 1, impl.MaxLimit), limit)
			for now := range 3 {
				next := impl.Learn(l, now*r.Intn(9), lat, true)
				if next.Limit < l.Limit || l.Limit >= 64 && next.Limit == l.Limit && l.Limit < impl.MaxLimit {
					t.Fatalf("behind %+v another %d comes to %+v", l, lat, next)
				}
				l = next
			}
		}
	}
}

// P8: as long as the mean is no more than the least of the window, nothing is lowered, whatever the samples were.
func TestAMeanAtTheLeastNeverLowers(t *testing.T) {
	r := rand.New(rand.NewSource(13))
	met := 0
	for range 60000 {
		l := someLim(r)
		now, lat := r.Intn(60), r.Intn(45)
		next := impl.Slope(l, now, lat)
		if next.Avg/impl.Unit > impl.Least(next.Win, now) {
			continue
		}
		met++
		if next.Limit < l.Limit {
			t.Fatalf("Slope(%+v, %d, %d) = %+v", l, now, lat, next)
		}
	}
	if met < 1000 {
		t.Errorf("the test met %d means at the least", met)
	}
}

// P8: a limit that is at its greatest, and goes on well, has its way up behind a fall.
func TestALimitComesBack(t *testing.T) {
	for _, kind := range bothKinds() {
		l, _ := impl.LimNew(cfgOf(kind, 64, 90), 90)
		for range 20 {
			l = impl.Learn(l, 1, 40, false)
		}
		if l.Limit != 64 {
			t.Fatalf("kind %d: what failed comes to %+v", kind, l)
		}
		for now := range 3000 {
			l = impl.Learn(l, now, 40, true)
		}
		if l.Limit != 90 {
			t.Errorf("kind %d: what went well comes to %+v", kind, l)
		}
	}
}

// Chapter 1: no argument is changed, no answer shares memory with one, and what a call answers hangs on its arguments alone.
func TestLimitsShareNoMemory(t *testing.T) {
	given := rightLims()
	for name, l := range wrongLims() {
		given["wrong: "+name] = l
	}
	for name, g := range given {
		for _, c := range limCalls() {
			for _, at := range [][2]int{{6, 40}, {6, 60}, {4, 90}, {6, 0}, {500, 7}, {-1, 7}, {6, -1}} {
				l := g
				var under []impl.Sample
				l.Win, under = spare(g.Win)
				checkOwnMemory(t, name+": "+c.name, l, under, func() impl.Lim { return c.call(l, at[0], at[1]) })
			}
		}
	}
}

// checkOwnMemory asks that a call neither changes the limit l, whose samples stand at the front of under, nor shares them.
func checkOwnMemory(t *testing.T, name string, l impl.Lim, under []impl.Sample, call func() impl.Lim) {
	t.Helper()
	before, whole := with(l, func(*impl.Lim) {}), append([]impl.Sample(nil), under...)
	unchanged := func() bool {
		return sameLim(l, before) && sameWindow(impl.Window{Items: under}, impl.Window{Items: whole})
	}
	answer := call()
	impl.LimOk(l)
	impl.Learn(limOf(impl.LmSlope, 77), 9, 70, true)
	again := call()
	kept := with(again, func(*impl.Lim) {})
	if !unchanged() {
		t.Errorf("%s: changed its argument", name)
	}
	if !sameLim(answer, again) {
		t.Errorf("%s: a second call answers %+v, the first %+v", name, again, answer)
	}
	room := answer.Win.Items[:cap(answer.Win.Items)]
	for i := range room {
		room[i] = impl.Sample{At: 77, Lat: 77}
	}
	if !unchanged() || !sameLim(again, kept) {
		t.Errorf("%s: a write into its answer shows elsewhere", name)
	}
	for i := range under {
		under[i] = impl.Sample{At: 66, Lat: 66}
	}
	if !sameLim(again, kept) {
		t.Errorf("%s: its answer changes with the argument", name)
	}
}

func TestNewLimitsShareNoMemory(t *testing.T) {
	c := cfgOf(impl.LmSlope, 2, 20)
	a, _ := impl.LimNew(c, 5)
	b, _ := impl.LimNew(c, 5)
	a.Win.Items = append(a.Win.Items, impl.Sample{At: 1, Lat: 1})
	b.Win.Items = append(b.Win.Items, impl.Sample{At: 2, Lat: 2})
	if !sameWindow(a.Win, windowOf(10, [2]int{1, 1})) || !sameWindow(b.Win, windowOf(10, [2]int{2, 2})) {
		t.Error("two new limits share memory")
	}
}
