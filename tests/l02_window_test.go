package tests

import (
	"math/big"
	"math/rand"
	"slices"
	"testing"

	"loop.example/g00685/impl"
)

func windowOf(span int, pairs ...[2]int) impl.Window {
	w := impl.Window{Span: span}
	for _, p := range pairs {
		w.Items = append(w.Items, impl.Sample{At: p[0], Lat: p[1]})
	}
	return w
}

// steadyWindow has so many items, at 1, 2, 3 .. with the latencies 10, 20, 30 ..
func steadyWindow(span int, count int) impl.Window {
	w := impl.Window{Span: span}
	for i := range count {
		w.Items = append(w.Items, impl.Sample{At: i + 1, Lat: 10 * (i + 1)})
	}
	return w
}

// sameWindow takes a list without elements and nil as the same.
func sameWindow(a impl.Window, b impl.Window) bool {
	return a.Span == b.Span && slices.Equal(a.Items, b.Items)
}

func copyWindow(w impl.Window) impl.Window {
	return impl.Window{Span: w.Span, Items: slices.Clone(w.Items)}
}

// wrongWindows are windows of which WindowOk is false, each by one thing.
func wrongWindows() map[string]impl.Window {
	return map[string]impl.Window{
		"the zero window":         {},
		"span 0":                  windowOf(0, [2]int{1, 5}, [2]int{2, 6}),
		"span -1":                 windowOf(-1, [2]int{1, 5}, [2]int{2, 6}),
		"the least span":          windowOf(minInt, [2]int{1, 5}),
		"span above its end":      windowOf(impl.MaxSpan+1, [2]int{1, 5}, [2]int{2, 6}),
		"the greatest span":       windowOf(impl.MaxInt, [2]int{1, 5}),
		"one item too many":       steadyWindow(impl.MaxSpan, impl.MaxItems+1),
		"far too many items":      steadyWindow(impl.MaxSpan, 20*impl.MaxItems),
		"At alike":                windowOf(10, [2]int{4, 5}, [2]int{4, 6}),
		"At falls":                windowOf(10, [2]int{4, 5}, [2]int{3, 6}),
		"At falls at the end":     windowOf(10, [2]int{4, 5}, [2]int{6, 6}, [2]int{5, 7}),
		"At alike at the end":     windowOf(10, [2]int{4, 5}, [2]int{6, 6}, [2]int{6, 7}),
		"Lat alike":               windowOf(10, [2]int{4, 5}, [2]int{5, 5}),
		"Lat falls":               windowOf(10, [2]int{4, 5}, [2]int{5, 4}),
		"Lat falls at the end":    windowOf(10, [2]int{4, 5}, [2]int{5, 7}, [2]int{6, 6}),
		"Lat alike at the end":    windowOf(10, [2]int{4, 5}, [2]int{5, 7}, [2]int{6, 7}),
		"both alike":              windowOf(10, [2]int{4, 5}, [2]int{4, 5}),
		"At below 0":              windowOf(10, [2]int{-1, 5}, [2]int{2, 6}),
		"At far below 0":          windowOf(10, [2]int{minInt, 5}),
		"At above its end":        windowOf(10, [2]int{4, 5}, [2]int{impl.MaxTime + 1, 6}),
		"At far above its end":    windowOf(10, [2]int{impl.MaxInt, 5}),
		"Lat below 0":             windowOf(10, [2]int{1, -1}, [2]int{2, 6}),
		"Lat far below 0":         windowOf(10, [2]int{1, minInt}),
		"Lat above its end":       windowOf(10, [2]int{4, 5}, [2]int{5, impl.MaxLat + 1}),
		"Lat far above its end":   windowOf(10, [2]int{4, impl.MaxInt}),
		"wrong ahead of trimming": windowOf(10, [2]int{4, 7}, [2]int{5, 6}, [2]int{90, 8}),
	}
}

// rightWindows are windows at the edges of what WindowOk allows.
func rightWindows() map[string]impl.Window {
	return map[string]impl.Window{
		"no items":          {Span: 10},
		"an empty list":     {Span: 10, Items: []impl.Sample{}},
		"span 1":            windowOf(1, [2]int{1, 5}, [2]int{2, 6}),
		"the longest span":  windowOf(impl.MaxSpan, [2]int{1, 5}, [2]int{2, 6}),
		"one item":          windowOf(10, [2]int{4, 5}),
		"neighbours":        windowOf(10, [2]int{4, 5}, [2]int{5, 6}, [2]int{6, 7}),
		"from both least":   windowOf(10, [2]int{0, 0}, [2]int{1, 1}),
		"to both greatest":  windowOf(10, [2]int{impl.MaxTime - 1, impl.MaxLat - 1}, [2]int{impl.MaxTime, impl.MaxLat}),
		"from end to end":   windowOf(1, [2]int{0, 0}, [2]int{impl.MaxTime, impl.MaxLat}),
		"one less than all": steadyWindow(impl.MaxSpan, impl.MaxItems-1),
		"as many as may be": steadyWindow(impl.MaxSpan, impl.MaxItems),
		"items long old":    windowOf(1, [2]int{0, 3}, [2]int{500, 4}, [2]int{1000, 5}),
	}
}

func TestWindowConstants(t *testing.T) {
	if impl.MaxSpan != 100000 || impl.MaxItems != 200 || impl.MaxLat != 1000000 || impl.Unit != 65536 {
		t.Error("a constant of chapter 3 isn't what the document says")
	}
}

func TestWindowOk(t *testing.T) {
	for name, w := range rightWindows() {
		if !impl.WindowOk(w) {
			t.Errorf("%s: WindowOk says false", name)
		}
	}
	for name, w := range wrongWindows() {
		if impl.WindowOk(w) {
			t.Errorf("%s: WindowOk says true", name)
		}
	}
}

func TestWindowOkOfEverySmallOne(t *testing.T) {
	ends := []int{-1, 0, 1, 2}
	for _, a := range ends {
		for _, b := range ends {
			for _, c := range ends {
				for _, d := range ends {
					w := windowOf(3, [2]int{a, b}, [2]int{c, d})
					if got, want := impl.WindowOk(w), a >= 0 && b >= 0 && c > a && d > b; got != want {
						t.Errorf("WindowOk(%v) = %v", w, got)
					}
				}
			}
		}
	}
}

// One wrong neighbour is seen at every place of a full window.
func TestWindowOkLooksAtEveryItem(t *testing.T) {
	for place := range impl.MaxItems {
		for _, spoil := range []func(*impl.Sample){
			func(s *impl.Sample) { s.At = -1 },
			func(s *impl.Sample) { s.Lat = -1 },
			func(s *impl.Sample) { s.At = impl.MaxTime + 1 },
			func(s *impl.Sample) { s.Lat = impl.MaxLat + 1 },
		} {
			w := steadyWindow(impl.MaxSpan, impl.MaxItems)
			spoil(&w.Items[place])
			if impl.WindowOk(w) {
				t.Errorf("WindowOk overlooks %v at the place %d", w.Items[place], place)
			}
		}
		if place == 0 {
			continue
		}
		w, x := steadyWindow(impl.MaxSpan, impl.MaxItems), steadyWindow(impl.MaxSpan, impl.MaxItems)
		w.Items[place].At = w.Items[place-1].At
		x.Items[place].Lat = x.Items[place-1].Lat
		if impl.WindowOk(w) || impl.WindowOk(x) {
			t.Errorf("WindowOk overlooks alike neighbours at the place %d", place)
		}
	}
}

func TestWindowNew(t *testing.T) {
	for _, span := range []int{1, 2, 10, impl.MaxSpan - 1, impl.MaxSpan} {
		w, ok := impl.WindowNew(span)
		if !ok || !sameWindow(w, impl.Window{Span: span}) || !impl.WindowOk(w) {
			t.Errorf("WindowNew(%d) = %v, %v", span, w, ok)
		}
	}
	for _, span := range []int{0, -1, -10, minInt, impl.MaxSpan + 1, impl.MaxTime, impl.MaxInt} {
		if w, ok := impl.WindowNew(span); ok || !sameWindow(w, impl.Window{}) {
			t.Errorf("WindowNew(%d) = %v, %v, want nothing and false", span, w, ok)
		}
	}
}

func TestTrim(t *testing.T) {
	w := windowOf(10, [2]int{3, 5}, [2]int{4, 6}, [2]int{9, 8})
	for _, c := range []struct{ now, left int }{
		{0, 3}, // ahead of all items
		{3, 3},
		{9, 3},
		{12, 3}, // the first is one younger than Span
		{13, 2}, // just as old
		{14, 1}, // one older, and the second just as old
		{15, 1},
		{18, 1},
		{19, 0},
		{20, 0},
		{impl.MaxTime, 0},
	} {
		want := impl.Window{Span: 10, Items: w.Items[3-c.left:]}
		if got := impl.Trim(w, c.now); !sameWindow(got, want) {
			t.Errorf("Trim(%v, %d) = %v, want %v", w, c.now, got, want)
		}
	}
}

func TestTrimAtTheEndsOfTimeAndSpan(t *testing.T) {
	far := windowOf(impl.MaxSpan, [2]int{0, 1}, [2]int{impl.MaxTime - impl.MaxSpan, 2}, [2]int{impl.MaxTime - impl.MaxSpan + 1, 3}, [2]int{impl.MaxTime, 4})
	short := windowOf(1, [2]int{0, 0}, [2]int{1, 1}, [2]int{2, 2}, [2]int{impl.MaxTime, impl.MaxLat})
	for _, c := range []struct {
		w         impl.Window
		now, left int
	}{
		{far, 0, 4},
		{far, impl.MaxSpan - 1, 4},
		{far, impl.MaxSpan, 3},
		{far, impl.MaxTime - 1, 3},
		{far, impl.MaxTime, 2},
		{short, 0, 4},
		{short, 1, 3},
		{short, 2, 2},
		{short, 3, 1},
		{short, impl.MaxTime, 1},
		{steadyWindow(impl.MaxSpan, impl.MaxItems), impl.MaxSpan, impl.MaxItems},
		{steadyWindow(impl.MaxSpan, impl.MaxItems), impl.MaxSpan + 1, impl.MaxItems - 1},
		{steadyWindow(impl.MaxSpan, impl.MaxItems), impl.MaxSpan + impl.MaxItems - 1, 1},
		{steadyWindow(impl.MaxSpan, impl.MaxItems), impl.MaxSpan + impl.MaxItems, 0},
	} {
		want := impl.Window{Span: c.w.Span, Items: c.w.Items[len(c.w.Items)-c.left:]}
		if got := impl.Trim(c.w, c.now); !sameWindow(got, want) {
			t.Errorf("Trim(%v, %d) = %v, want %v", c.w, c.now, got, want)
		}
	}
}

func noTimes() []int { return []int{-1, -10, minInt, impl.MaxTime + 1, impl.MaxInt} }

func noLatencies() []int { return []int{-1, -10, minInt, impl.MaxLat + 1, impl.MaxInt} }

func TestWindowsAtWrongInputs(t *testing.T) {
	nothing := impl.Window{}
	for name, w := range wrongWindows() {
		for _, now := range []int{0, 5, 14, 100, impl.MaxTime} {
			if got := impl.Trim(w, now); !sameWindow(got, nothing) {
				t.Errorf("%s: Trim at %d = %v, want nothing", name, now, got)
			}
			if got := impl.Push(w, now, 3); !sameWindow(got, nothing) {
				t.Errorf("%s: Push at %d = %v, want nothing", name, now, got)
			}
			if got := impl.Least(w, now); got != -1 {
				t.Errorf("%s: Least at %d = %d, want -1", name, now, got)
			}
		}
	}
	for name, w := range rightWindows() {
		for _, now := range noTimes() {
			if got := impl.Trim(w, now); !sameWindow(got, nothing) {
				t.Errorf("%s: Trim at %d = %v, want nothing", name, now, got)
			}
			if got := impl.Push(w, now, 3); !sameWindow(got, nothing) {
				t.Errorf("%s: Push at %d = %v, want nothing", name, now, got)
			}
			if got := impl.Least(w, now); got != -1 {
				t.Errorf("%s: Least at %d = %d, want -1", name, now, got)
			}
		}
		for _, lat := range noLatencies() {
			if got := impl.Push(w, 5, lat); !sameWindow(got, nothing) {
				t.Errorf("%s: Push of %d = %v, want nothing", name, lat, got)
			}
		}
	}
}

func TestPush(t *testing.T) {
	two := windowOf(10, [2]int{3, 5}, [2]int{4, 8})
	for _, c := range []struct {
		w        impl.Window
		now, lat int
		want     [][2]int
	}{
		{windowOf(10), 0, 0, [][2]int{{0, 0}}},
		{windowOf(10), impl.MaxTime, impl.MaxLat, [][2]int{{impl.MaxTime, impl.MaxLat}}},
		// above, alike with and just below one that is there
		{two, 6, 9, [][2]int{{3, 5}, {4, 8}, {6, 9}}},
		{two, 6, 8, [][2]int{{3, 5}, {6, 8}}},
		{two, 6, 7, [][2]int{{3, 5}, {6, 7}}},
		{two, 6, 6, [][2]int{{3, 5}, {6, 6}}},
		{two, 6, 5, [][2]int{{6, 5}}},
		{two, 6, 4, [][2]int{{6, 4}}},
		{two, 6, 0, [][2]int{{6, 0}}},
		// at the last item's time, below and above it
		{two, 5, 9, [][2]int{{3, 5}, {4, 8}, {5, 9}}},
		{two, 4, 9, [][2]int{{3, 5}, {4, 8}}},
		{two, 4, 8, [][2]int{{3, 5}, {4, 8}}},
		{two, 4, 7, [][2]int{{3, 5}, {4, 7}}},
		{two, 4, 5, [][2]int{{4, 5}}},
		{two, 3, 9, [][2]int{{3, 5}, {4, 8}}},
		{two, 3, 8, [][2]int{{3, 5}}},
		{two, 3, 6, [][2]int{{3, 5}}},
		{two, 3, 5, [][2]int{{3, 5}}},
		{two, 3, 4, [][2]int{{3, 4}}},
		{two, 2, 9, [][2]int{{3, 5}, {4, 8}}},
		{two, 2, 7, [][2]int{{3, 5}}},
		{two, 2, 5, [][2]int{{2, 5}}},
		{two, 0, 4, [][2]int{{0, 4}}},
		// what is old goes first
		{two, 12, 9, [][2]int{{3, 5}, {4, 8}, {12, 9}}},
		{two, 13, 9, [][2]int{{4, 8}, {13, 9}}},
		{two, 14, 9, [][2]int{{14, 9}}},
		{two, 13, 8, [][2]int{{13, 8}}},
		{two, impl.MaxTime, impl.MaxLat, [][2]int{{impl.MaxTime, impl.MaxLat}}},
		{windowOf(1, [2]int{7, 3}), 8, 9, [][2]int{{8, 9}}},
		{windowOf(1, [2]int{7, 3}), 7, 9, [][2]int{{7, 3}}},
		{windowOf(2, [2]int{7, 3}), 8, 9, [][2]int{{7, 3}, {8, 9}}},
	} {
		want := windowOf(c.w.Span, c.want...)
		if got := impl.Push(c.w, c.now, c.lat); !sameWindow(got, want) {
			t.Errorf("Push(%v, %d, %d) = %v, want %v", c.w, c.now, c.lat, got, want)
		}
	}
}

func TestPushIntoAFullWindow(t *testing.T) {
	const most = impl.MaxItems
	full := steadyWindow(impl.MaxSpan, most)
	behind := func(items []impl.Sample, at int, lat int) impl.Window {
		return impl.Window{Span: impl.MaxSpan, Items: append(slices.Clone(items), impl.Sample{At: at, Lat: lat})}
	}
	for _, c := range []struct {
		what     string
		now, lat int
		want     impl.Window
	}{
		{"a greater one behind", most + 1, 10*most + 1, behind(full.Items[1:], most+1, 10*most+1)},
		{"the greatest behind", most + 1, impl.MaxLat, behind(full.Items[1:], most+1, impl.MaxLat)},
		{"one like the last", most + 1, 10 * most, behind(full.Items[:most-1], most+1, 10*most)},
		{"one below the last", most + 1, 10*most - 1, behind(full.Items[:most-1], most+1, 10*most-1)},
		{"the least", most + 1, 10, behind(nil, most+1, 10)},
		{"a greater one at the last time", most, impl.MaxLat, full},
		{"a greater one ahead of it", 7, impl.MaxLat, full},
		{"a greater one when the first is old", impl.MaxSpan + 1, impl.MaxLat, behind(full.Items[1:], impl.MaxSpan+1, impl.MaxLat)},
		{"a greater one when two are old", impl.MaxSpan + 2, impl.MaxLat, behind(full.Items[2:], impl.MaxSpan+2, impl.MaxLat)},
	} {
		if got := impl.Push(full, c.now, c.lat); !sameWindow(got, c.want) {
			t.Errorf("%s: Push = %v, want %v", c.what, got, c.want)
		}
	}
	almost := steadyWindow(impl.MaxSpan, most-1)
	want := behind(almost.Items, most, impl.MaxLat)
	if got := impl.Push(almost, most, impl.MaxLat); !sameWindow(got, want) {
		t.Errorf("Push into a window with room for one = %v, want %v", got, want)
	}
}

func TestLeast(t *testing.T) {
	w := windowOf(10, [2]int{3, 5}, [2]int{4, 6}, [2]int{9, 8})
	for _, c := range []struct{ now, want int }{
		{0, 5}, {3, 5}, {12, 5}, {13, 6}, {14, 8}, {18, 8}, {19, -1}, {20, -1}, {impl.MaxTime, -1},
	} {
		if got := impl.Least(w, c.now); got != c.want {
			t.Errorf("Least(%v, %d) = %d, want %d", w, c.now, got, c.want)
		}
	}
	for _, now := range []int{0, 1, impl.MaxTime} {
		if got := impl.Least(windowOf(10), now); got != -1 {
			t.Errorf("Least of no items at %d = %d, want -1", now, got)
		}
	}
	if got := impl.Least(windowOf(1, [2]int{0, 0}), 0); got != 0 {
		t.Errorf("Least of the latency 0 = %d, want 0", got)
	}
	if got := impl.Least(windowOf(1, [2]int{impl.MaxTime, impl.MaxLat}), impl.MaxTime); got != impl.MaxLat {
		t.Errorf("Least of the greatest latency = %d", got)
	}
}

// wantTrim and wantPush say what the document says, item by item.
func wantTrim(w impl.Window, now int) impl.Window {
	out := impl.Window{Span: w.Span}
	for _, s := range w.Items {
		if s.At > now-w.Span {
			out.Items = append(out.Items, s)
		}
	}
	return out
}

func wantPush(w impl.Window, now int, lat int) impl.Window {
	out, behind := impl.Window{Span: w.Span}, true
	for _, s := range wantTrim(w, now).Items {
		if s.Lat < lat {
			out.Items = append(out.Items, s)
			behind = behind && s.At < now
		}
	}
	if behind {
		out.Items = append(out.Items, impl.Sample{At: now, Lat: lat})
	}
	if len(out.Items) > impl.MaxItems {
		out.Items = out.Items[1:]
	}
	return out
}

func someWindow(r *rand.Rand) impl.Window {
	w := impl.Window{Span: 1 + r.Intn(30)}
	at, lat := r.Intn(5), r.Intn(5)
	for range r.Intn(8) {
		w.Items = append(w.Items, impl.Sample{At: at, Lat: lat})
		at += 1 + r.Intn(6)
		lat += 1 + r.Intn(6)
	}
	return w
}

func TestWindowsEverywhere(t *testing.T) {
	r := rand.New(rand.NewSource(2))
	for range 300 {
		w := someWindow(r)
		for now := range 60 {
			want := wantTrim(w, now)
			if got := impl.Trim(w, now); !sameWindow(got, want) || !impl.WindowOk(got) {
				t.Fatalf("Trim(%v, %d) = %v, want %v", w, now, got, want)
			}
			least := -1
			if len(want.Items) > 0 {
				least = want.Items[0].Lat
			}
			if got := impl.Least(w, now); got != least {
				t.Fatalf("Least(%v, %d) = %d, want %d", w, now, got, least)
			}
			for lat := range 45 {
				want := wantPush(w, now, lat)
				if got := impl.Push(w, now, lat); !sameWindow(got, want) || !impl.WindowOk(got) {
					t.Fatalf("Push(%v, %d, %d) = %v, want %v", w, now, lat, got, want)
				}
			}
		}
	}
}

// leastOf looks at all samples there ever were; -1 where none is young enough.
func leastOf(all []impl.Sample, span int, now int) int {
	least := -1
	for _, s := range all {
		if s.At > now-span && (least < 0 || s.Lat < least) {
			least = s.Lat
		}
	}
	return least
}

// P8: a window forgets nothing that could still be the least.
func TestLeastIsThatOfAllYoungSamples(t *testing.T) {
	r := rand.New(rand.NewSource(3))
	for _, span := range []int{1, 2, 3, 7, 20, 150, impl.MaxSpan} {
		for _, spread := range []int{1, 3, 100, impl.MaxLat + 1} {
			w, _ := impl.WindowNew(span)
			var all []impl.Sample
			now := r.Intn(3)
			for range 180 { // fewer than MaxItems, so that none goes for want of room
				s := impl.Sample{At: now, Lat: r.Intn(spread)}
				w = impl.Push(w, s.At, s.Lat)
				all = append(all, s)
				for _, later := range []int{0, 1, span - 1, span, span + 1, r.Intn(2 * span)} {
					if got, want := impl.Least(w, now+later), leastOf(all, span, now+later); got != want {
						t.Fatalf("span %d: Least at %d = %d, of all samples it is %d: %v", span, now+later, got, want, all)
					}
				}
				now += r.Intn(1 + min(span, 40)/2)
			}
		}
	}
}

// P8, with more samples than a window has room for, of which few can be the least.
func TestLeastOfManySamples(t *testing.T) {
	r := rand.New(rand.NewSource(4))
	w, _ := impl.WindowNew(150)
	var all []impl.Sample
	for now := range 3000 {
		s := impl.Sample{At: now, Lat: r.Intn(1000)}
		w = impl.Push(w, s.At, s.Lat)
		all = append(all, s)
		if got, want := impl.Least(w, now), leastOf(all[max(0, len(all)-200):], 150, now); got != want {
			t.Fatalf("Least at %d = %d, of all samples it is %d", now, got, want)
		}
	}
}

func TestMean(t *testing.T) {
	const most = impl.MaxLat * impl.Unit
	for _, c := range []struct{ avg, lat, part, want int }{
		{65536, 3, 32768, 131072},
		{131072, 1, 32768, 98304},
		{0, 0, 0, 0},
		{0, 0, impl.Unit, 0},
		{5, 9, 0, 5},
		{5, 9, impl.Unit, 9 * impl.Unit},
		{most, 0, 0, most},
		{most, 0, impl.Unit, 0},
		{most, 0, 1, most - impl.MaxLat},
		{most, 0, impl.Unit - 1, impl.MaxLat},
		{0, impl.MaxLat, 0, 0},
		{0, impl.MaxLat, 1, impl.MaxLat},
		{0, impl.MaxLat, impl.Unit - 1, most - impl.MaxLat},
		{0, impl.MaxLat, impl.Unit, most},
		{most, impl.MaxLat, 0, most},
		{most, impl.MaxLat, impl.Unit, most},
		{most - 1, impl.MaxLat, impl.Unit, most},
		{1, 0, impl.Unit, 0},
		{7, 7, 8192, 7 + 57343},
		// a rest upwards: 65535 x 3 / 65536 is 2 and a rest
		{1, 1, 3, 3},
		{1, 1, 1, 1},
		{65535, 1, 65535, 65535},
		// a rest downwards, towards 0 as well: -65535 x 3 / 65536 is -2 and a rest
		{65535, 0, 3, 65533},
		{65535, 0, 1, 65535},
		{1, 0, 65535, 1},
		{65537, 1, 65535, 65537},
		{65537, 1, 65536, 65536},
		{65539, 1, 32768, 65538},
		{65533, 1, 32768, 65534},
	} {
		if got := impl.Mean(c.avg, c.lat, c.part); got != c.want {
			t.Errorf("Mean(%d, %d, %d) = %d, want %d", c.avg, c.lat, c.part, got, c.want)
		}
	}
}

func TestMeanAtWrongInputs(t *testing.T) {
	const most = impl.MaxLat * impl.Unit
	for _, avg := range []int{-1, -impl.Unit, minInt, most + 1, impl.MaxInt} {
		for _, lat := range []int{0, 5, impl.MaxLat} {
			for _, part := range []int{0, 9, impl.Unit} {
				if got := impl.Mean(avg, lat, part); got != 0 {
					t.Errorf("Mean(%d, %d, %d) = %d, want 0", avg, lat, part, got)
				}
			}
		}
	}
	for _, avg := range []int{9, most} {
		for _, lat := range noLatencies() {
			for _, part := range []int{0, 9, impl.Unit} {
				if got := impl.Mean(avg, lat, part); got != 0 {
					t.Errorf("Mean(%d, %d, %d) = %d, want 0", avg, lat, part, got)
				}
			}
		}
		for _, part := range []int{-1, -impl.Unit, minInt, impl.Unit + 1, impl.MaxInt} {
			if got := impl.Mean(avg, 5, part); got != 0 {
				t.Errorf("Mean(%d, 5, %d) = %d, want 0", avg, part, got)
			}
		}
	}
}

func wantMean(avg int, lat int, part int) int {
	way := big.NewInt(int64(lat)*impl.Unit - int64(avg))
	way.Mul(way, big.NewInt(int64(part)))
	way.Quo(way, big.NewInt(impl.Unit)) // Quo rounds towards 0
	return avg + int(way.Int64())
}

// P8: a mean moves towards a sample and not beyond.
func TestMeanMovesTowardsTheSample(t *testing.T) {
	const most = impl.MaxLat * impl.Unit
	avgs, lats := []int{0, 1, 2, 65535, 65536, 65537, most / 2, most - 1, most}, []int{0, 1, 2, 3, impl.MaxLat / 2, impl.MaxLat - 1, impl.MaxLat}
	parts := []int{0, 1, 2, 3, 8191, 8192, 8193, 32767, 32768, 32769, impl.Unit - 1, impl.Unit}
	r := rand.New(rand.NewSource(5))
	for range 25 {
		avgs, lats, parts = append(avgs, r.Intn(most+1)), append(lats, r.Intn(impl.MaxLat+1)), append(parts, r.Intn(impl.Unit+1))
	}
	for _, avg := range avgs {
		for _, lat := range lats {
			for _, part := range parts {
				got, aim := impl.Mean(avg, lat, part), lat*impl.Unit
				if want := wantMean(avg, lat, part); got != want {
					t.Errorf("Mean(%d, %d, %d) = %d, want %d", avg, lat, part, got, want)
				}
				if got < min(avg, aim) || got > max(avg, aim) {
					t.Errorf("Mean(%d, %d, %d) = %d isn't between the mean and the sample", avg, lat, part, got)
				}
			}
		}
	}
}

// windowCalls are all calls that answer a window for a window.
func windowCalls() map[string]func(impl.Window) impl.Window {
	calls := map[string]func(impl.Window) impl.Window{
		"Trim of nothing":      func(w impl.Window) impl.Window { return impl.Trim(w, 9) },
		"Trim of one":          func(w impl.Window) impl.Window { return impl.Trim(w, 13) },
		"Trim of all":          func(w impl.Window) impl.Window { return impl.Trim(w, 50) },
		"Trim at no time":      func(w impl.Window) impl.Window { return impl.Trim(w, -1) },
		"Push behind":          func(w impl.Window) impl.Window { return impl.Push(w, 10, 90) },
		"Push of nothing":      func(w impl.Window) impl.Window { return impl.Push(w, 9, 90) },
		"Push in the midst":    func(w impl.Window) impl.Window { return impl.Push(w, 10, 6) },
		"Push in front":        func(w impl.Window) impl.Window { return impl.Push(w, 10, 0) },
		"Push late":            func(w impl.Window) impl.Window { return impl.Push(w, 13, 7) },
		"Push of no latency":   func(w impl.Window) impl.Window { return impl.Push(w, 10, -1) },
		"Push with all old":    func(w impl.Window) impl.Window { return impl.Push(w, 500, 7) },
		"Push ahead of others": func(w impl.Window) impl.Window { return impl.Push(w, 3, 6) },
	}
	return calls
}

// spare is a window whose list has room behind its end, where a careless append would write.
func spare(w impl.Window) (impl.Window, []impl.Sample) {
	under := append(slices.Clone(w.Items), impl.Sample{At: -7, Lat: -7}, impl.Sample{At: -8, Lat: -8})
	return impl.Window{Span: w.Span, Items: under[:len(w.Items)]}, under
}

func TestWindowsShareNoMemory(t *testing.T) {
	for _, given := range []impl.Window{
		windowOf(10),
		windowOf(10, [2]int{3, 5}),
		windowOf(10, [2]int{3, 5}, [2]int{4, 6}, [2]int{9, 8}),
		steadyWindow(impl.MaxSpan, impl.MaxItems),
		windowOf(0, [2]int{3, 5}, [2]int{4, 6}), // not right
	} {
		for name, call := range windowCalls() {
			w, under := spare(given)
			before := slices.Clone(under)
			answer, again := call(w), call(w)
			impl.Least(w, 9)
			impl.WindowOk(w)
			if w.Span != given.Span || !slices.Equal(under, before) {
				t.Errorf("%s: changed its argument %v", name, given)
			}
			kept := copyWindow(again)
			room := answer.Items[:cap(answer.Items)]
			for i := range room {
				room[i] = impl.Sample{At: 77, Lat: 77}
			}
			if !slices.Equal(under, before) || !sameWindow(again, kept) {
				t.Errorf("%s: its answer shares memory with %v or with another answer", name, given)
			}
			for i := range under {
				under[i] = impl.Sample{At: 66, Lat: 66}
			}
			if !sameWindow(again, kept) {
				t.Errorf("%s: its answer changes with the argument %v", name, given)
			}
		}
	}
}

func TestNewWindowsShareNoMemory(t *testing.T) {
	a, _ := impl.WindowNew(10)
	b, _ := impl.WindowNew(10)
	a.Items = append(a.Items, impl.Sample{At: 1, Lat: 1})
	b.Items = append(b.Items, impl.Sample{At: 2, Lat: 2})
	if !sameWindow(a, windowOf(10, [2]int{1, 1})) || !sameWindow(b, windowOf(10, [2]int{2, 2})) {
		t.Error("two new windows share memory")
	}
}
