package tests

import (
	"maps"
	"slices"
	"testing"

	"loop.example/g00225/impl"
)

func hit(at impl.Point, segs ...int64) impl.Hit { return impl.Hit{At: at, Segs: segs} }

func sameHit(a, b impl.Hit) bool { return a.At == b.At && slices.Equal(a.Segs, b.Segs) }

func sameHits(a, b []impl.Hit) bool { return slices.EqualFunc(a, b, sameHit) }

func hitAtWanted(segs []impl.Seg, p impl.Point) []int64 {
	var out []int64
	for i, s := range segs {
		if placeAt(s.A).between(placeAt(s.B), placeOf(p)) {
			out = append(out, int64(i))
		}
	}
	return out
}

// hitsWanted goes by all pairs, without a sweep.
func hitsWanted(segs []impl.Seg) []impl.Hit {
	points := map[impl.Point]place{}
	for i, s := range segs {
		for _, end := range []impl.Spot{s.A, s.B} {
			points[impl.PointOf(end)] = placeAt(end)
		}
		for _, q := range segs[:i] {
			if kind, p, _ := meetWanted(s, q); kind == impl.MtPoint {
				points[p] = placeOf(p)
			}
		}
	}
	var out []impl.Hit
	for _, p := range slices.SortedFunc(maps.Keys(points), func(p, q impl.Point) int { return int(points[p].order(points[q])) }) {
		out = append(out, hit(p, hitAtWanted(segs, p)...))
	}
	return out
}

// areTouching goes by turns of spots, in whole numbers.
func areTouching(s, q impl.Seg) bool { return touch(s.A, s.B, q.A, q.B) }

func pairsWanted(segs []impl.Seg) []impl.Pair {
	var out []impl.Pair
	for i := range segs {
		for j := i + 1; j < len(segs); j++ {
			if areTouching(segs[i], segs[j]) {
				out = append(out, impl.Pair{I: int64(i), J: int64(j)})
			}
		}
	}
	return out
}

// quietWanted takes the ends that two have in common, and asks whether there is more.
func quietWanted(segs []impl.Seg) bool {
	for _, pair := range pairsWanted(segs) {
		s, q := segs[pair.I], segs[pair.J]
		kind, p, _ := meetWanted(s, q)
		ends := []impl.Point{impl.PointOf(s.A), impl.PointOf(s.B)}
		others := []impl.Point{impl.PointOf(q.A), impl.PointOf(q.B)}
		if kind == impl.MtSpan || !slices.Contains(ends, p) || !slices.Contains(others, p) {
			return false
		}
	}
	return true
}

// checkPromise8 holds the answers against each other.
func checkPromise8(t *testing.T, segs []impl.Seg, hits []impl.Hit, pairs []impl.Pair) {
	t.Helper()
	meeting := map[impl.Pair]bool{}
	ends := map[impl.Point]bool{}
	for i, h := range hits {
		if !impl.PointOk(h.At) || i > 0 && impl.PointCmp(hits[i-1].At, h.At) != -1 {
			t.Fatal("hits do not rise", segs, i)
		}
		if !slices.Equal(h.Segs, impl.HitAt(segs, h.At)) || len(h.Segs) == 0 {
			t.Fatal("not just the segments there", segs, h)
		}
		ends[h.At] = true
		for j, n := range h.Segs {
			for _, m := range h.Segs[:j] {
				meeting[impl.Pair{I: m, J: n}] = true
			}
		}
	}
	for i, s := range segs {
		if !ends[impl.PointOf(s.A)] || !ends[impl.PointOf(s.B)] {
			t.Fatal("an end is no hit", segs, s)
		}
		for j := i + 1; j < len(segs); j++ {
			pair := impl.Pair{I: int64(i), J: int64(j)}
			kind, _, _ := impl.Meet(s, segs[j])
			if meeting[pair] != (kind != impl.MtNone) || meeting[pair] != slices.Contains(pairs, pair) {
				t.Fatal("in one hit, but not just when they meet", segs, pair)
			}
		}
	}
}

func TestHits(t *testing.T) {
	t.Parallel()
	seen := map[string]int{}
	for _, segs := range rightSegs() {
		hits, ok := impl.HitsOf(segs)
		if want := hitsWanted(segs); !ok || !sameHits(hits, want) {
			t.Fatal(segs, hits, ok, want)
		}
		pairs, ok := impl.CrossPairs(segs)
		if want := pairsWanted(segs); !ok || !slices.Equal(pairs, want) {
			t.Fatal("pairs", segs, pairs, ok, want)
		}
		quiet := impl.Quiet(segs)
		if quiet != quietWanted(segs) {
			t.Fatal("quiet", segs, quiet)
		}
		if quiet && len(segs) > 1 {
			seen["quiet"]++
		}
		checkPromise8(t, segs, hits, pairs)
		for _, h := range hits {
			switch {
			case len(h.Segs) > 4:
				seen["many"]++
			case len(h.Segs) > 2:
				seen["few"]++
			case h.At.W != one:
				seen["between whole ones"]++
			}
		}
	}
	if seen["many"] < 50 || seen["few"] < 200 || seen["between whole ones"] < 1000 || seen["quiet"] < 40 {
		t.Error("too few of a kind", seen)
	}
}

// TestHitsOfSmallLattices takes thrown segments of a lattice, where nearly all touch, lie over one another or go through one point.
func TestHitsOfSmallLattices(t *testing.T) {
	d := dice(79)
	for i := range 1500 {
		segs := d.segs(2+i%7, 1+int64(i%3))
		hits, ok := impl.HitsOf(segs)
		if want := hitsWanted(segs); !ok || !sameHits(hits, want) {
			t.Fatal(segs, hits, ok, want)
		}
		pairs, ok := impl.CrossPairs(segs)
		if want := pairsWanted(segs); !ok || !slices.Equal(pairs, want) {
			t.Fatal("pairs", segs, pairs, ok, want)
		}
		if got := impl.Quiet(segs); got != quietWanted(segs) {
			t.Fatal("quiet", segs, got)
		}
	}
}

// TestHitsInAnyOrder asks of the same segments in another order: the hits are the same, by other numbers.
func TestHitsInAnyOrder(t *testing.T) {
	for _, segs := range rightSegs() {
		hits, _ := impl.HitsOf(segs)
		turned := slices.Clone(segs)
		slices.Reverse(turned)
		others, _ := impl.HitsOf(turned)
		for i := range others {
			for j, n := range others[i].Segs {
				others[i].Segs[j] = int64(len(segs)) - 1 - n
			}
			slices.Reverse(others[i].Segs)
		}
		if !sameHits(hits, others) || impl.Quiet(segs) != impl.Quiet(turned) {
			t.Error(segs)
		}
	}
}

func TestHitsOfOurOwn(t *testing.T) {
	for i, c := range []struct {
		segs []impl.Seg
		want []impl.Hit
	}{
		{nil, nil}, {[]impl.Seg{seg(0, 0, 1, 2)}, []impl.Hit{hit(point(0, 0, 1), 0), hit(point(1, 2, 1), 0)}},
		// Twice the same: just its ends.
		{repeated(seg(0, 0, 1, 2), 3), []impl.Hit{hit(point(0, 0, 1), 0, 1, 2), hit(point(1, 2, 1), 0, 1, 2)}},
		{[]impl.Seg{seg(0, 0, 3, 1), seg(1, -1, 1, 1)}, []impl.Hit{hit(point(0, 0, 1), 0), hit(point(1, -1, 1), 1), hit(point(3, 1, 3), 0, 1), hit(point(1, 1, 1), 1), hit(point(3, 1, 1), 0)}},
		// One ends on another one; a span in common; an end alone.
		{[]impl.Seg{seg(0, 0, 4, 0), seg(2, 0, 2, 3)}, []impl.Hit{hit(point(0, 0, 1), 0), hit(point(2, 0, 1), 0, 1), hit(point(2, 3, 1), 1), hit(point(4, 0, 1), 0)}},
		{[]impl.Seg{seg(0, 0, 3, 3), seg(2, 2, 5, 5)}, []impl.Hit{hit(point(0, 0, 1), 0), hit(point(2, 2, 1), 0, 1), hit(point(3, 3, 1), 0, 1), hit(point(5, 5, 1), 1)}},
		{[]impl.Seg{seg(0, 0, 3, 3), seg(3, 3, 5, 5)}, []impl.Hit{hit(point(0, 0, 1), 0), hit(point(3, 3, 1), 0, 1), hit(point(5, 5, 1), 1)}},
		{[]impl.Seg{seg(0, 0, 9, 0), seg(2, 0, 5, 0), seg(4, 0, 7, 0)}, []impl.Hit{hit(point(0, 0, 1), 0), hit(point(2, 0, 1), 0, 1), hit(point(4, 0, 1), 0, 1, 2), hit(point(5, 0, 1), 0, 1, 2), hit(point(7, 0, 1), 0, 2), hit(point(9, 0, 1), 0)}},
		{[]impl.Seg{seg(1, 0, 1, 3), seg(1, 2, 1, 5), seg(0, 3, 2, 3)}, []impl.Hit{hit(point(0, 3, 1), 2), hit(point(1, 0, 1), 0), hit(point(1, 2, 1), 0, 1), hit(point(1, 3, 1), 0, 1, 2), hit(point(1, 5, 1), 1), hit(point(2, 3, 1), 2)}},
		// Many through one point: ones that go on, begin, end, stand upright, lie over one another.
		{[]impl.Seg{seg(0, 0, 4, 4), seg(0, 4, 4, 0), seg(2, 2, 2, 9), seg(2, -9, 2, 2), seg(2, 2, 3, 9), seg(-1, 2, 2, 2), seg(1, 1, 3, 3)}, []impl.Hit{
			hit(point(-1, 2, 1), 5), hit(point(0, 0, 1), 0), hit(point(0, 4, 1), 1), hit(point(1, 1, 1), 0, 6), hit(point(2, -9, 1), 3), hit(point(2, 2, 1), 0, 1, 2, 3, 4, 5, 6), hit(point(2, 9, 1), 2), hit(point(3, 3, 1), 0, 6), hit(point(3, 9, 1), 4), hit(point(4, 0, 1), 1), hit(point(4, 4, 1), 0),
		}},
		{[]impl.Seg{seg(-edge, -edge, edge, edge), seg(-edge, edge-1, edge, -edge)}, []impl.Hit{hit(point(-edge, -edge, 1), 0), hit(point(-edge, edge-1, 1), 1), hit(point(-edge, -edge, 4*edge-1), 0, 1), hit(point(edge, -edge, 1), 1), hit(point(edge, edge, 1), 0)}},
	} {
		if got, ok := impl.HitsOf(c.segs); !ok || !sameHits(got, c.want) {
			t.Error(i, got, ok)
		}
	}
	// As many hits as segments may have: all cross all, no three in one point.
	var most []impl.Seg
	for i := range int64(40) {
		most = append(most, seg(-1000, i*i*i, 1000, -i*i*i+i))
	}
	if got, ok := impl.HitsOf(most); !ok || len(got) < 600 || !sameHits(got, hitsWanted(most)) {
		t.Error("all cross all", len(got), ok)
	}
}

func TestHitsAtPoints(t *testing.T) {
	t.Parallel()
	seen := map[int]int{}
	for _, segs := range rightSegs() {
		for _, p := range pointsNear(segs) {
			got := impl.HitAt(segs, p)
			if want := hitAtWanted(segs, p); !slices.Equal(got, want) {
				t.Fatal(segs, p, got, want)
			}
			seen[min(len(got), 5)]++
		}
	}
	if seen[0] < 1000 || seen[1] < 1000 || seen[2] < 1000 || seen[3] < 200 || seen[5] < 200 {
		t.Error("too few of a kind", seen)
	}
	ours := []impl.Seg{seg(0, 0, 4, 0), seg(2, 0, 6, 0), seg(2, 0, 2, 5), seg(0, 0, 9, 9), seg(2, -3, 2, -1)}
	for i, c := range []struct {
		p    impl.Point
		want []int64
	}{
		{point(0, 0, 1), []int64{0, 3}}, {point(2, 0, 1), []int64{0, 1, 2}}, {point(4, 0, 1), []int64{0, 1}}, {point(5, 0, 1), []int64{1}}, {point(7, 0, 1), nil}, {point(2, 2, 1), []int64{2, 3}}, {point(2, 5, 1), []int64{2}},
		{point(2, 6, 1), nil}, {point(2, -1, 1), []int64{4}}, {point(2, -4, 1), nil}, {point(4, -1, 2), nil}, {point(9, 9, 1), []int64{3}}, {point(10, 10, 1), nil}, {point(-1, -1, 1), nil}, {point(1, 1, 3), []int64{3}}, {point(1, 0, 2), []int64{0}},
	} {
		if got := impl.HitAt(ours, c.p); !slices.Equal(got, c.want) {
			t.Error(i, got, c.want)
		}
	}
}

func TestQuietOfOurOwn(t *testing.T) {
	for i, c := range []struct {
		segs []impl.Seg
		want bool
	}{
		{nil, true}, {[]impl.Seg{seg(0, 0, 1, 0)}, true}, {[]impl.Seg{seg(0, 0, 1, 0), seg(0, 1, 1, 1)}, true}, {[]impl.Seg{seg(0, 0, 2, 2), seg(2, 2, 3, 0)}, true}, {[]impl.Seg{seg(0, 0, 2, 2), seg(0, 0, 3, 0)}, true},
		{[]impl.Seg{seg(0, 0, 2, 2), seg(2, 2, 4, 4)}, true}, {[]impl.Seg{seg(1, 0, 1, 2), seg(1, 2, 1, 4)}, true}, {[]impl.Seg{seg(0, 0, 2, 0), seg(3, 0, 5, 0)}, true}, {[]impl.Seg{seg(0, 0, 1, 0), seg(0, 0, 0, 1), seg(0, 0, 1, 1), seg(-1, 0, 0, 0), seg(0, -1, 0, 0)}, true},
		{[]impl.Seg{seg(0, 0, 2, 2), seg(0, 2, 2, 0)}, false}, {[]impl.Seg{seg(0, 0, 4, 0), seg(2, 0, 2, 5)}, false}, {[]impl.Seg{seg(2, 0, 2, 5), seg(0, 0, 4, 0)}, false}, {[]impl.Seg{seg(0, 0, 4, 0), seg(2, -5, 2, 0)}, false},
		{repeated(seg(0, 0, 1, 0), 2), false}, {[]impl.Seg{seg(0, 0, 4, 0), seg(0, 0, 2, 0)}, false}, {[]impl.Seg{seg(0, 0, 4, 0), seg(2, 0, 4, 0)}, false}, {[]impl.Seg{seg(0, 0, 4, 0), seg(1, 0, 2, 0)}, false}, {[]impl.Seg{seg(0, 0, 4, 0), seg(3, 0, 5, 0)}, false},
		{[]impl.Seg{seg(0, 0, 1, 0), seg(0, 5, 1, 5), seg(0, 9, 4, 9), seg(2, 9, 2, 10)}, false}, {[]impl.Seg{seg(0, 0, 2, 2), seg(8, 8, 9, 9), seg(7, 7, 8, 8), seg(0, 2, 2, 0)}, false},
	} {
		if got := impl.Quiet(c.segs); got != c.want {
			t.Error(i, got)
		}
	}
}

func TestSidesOfLayersAreQuiet(t *testing.T) {
	for _, l := range rightLayers() {
		segs := impl.LayerSegs(l)
		if !impl.Quiet(segs) || impl.SegsFault(segs) != impl.SgOk {
			t.Error(l)
		}
		for i := range segs {
			more := append(slices.Clone(segs), segs[i])
			if impl.Quiet(more) {
				t.Error("a side twice", l, i)
			}
		}
	}
}

func TestPairsOfOurOwn(t *testing.T) {
	segs := []impl.Seg{seg(0, 0, 2, 2), seg(0, 2, 2, 0), seg(1, 1, 5, 1), seg(3, 1, 7, 1), seg(9, 9, 9, 12), seg(7, 1, 9, 9), seg(9, 10, 9, 11), seg(20, 0, 21, 0)}
	got, ok := impl.CrossPairs(segs)
	if want := []impl.Pair{{I: 0, J: 1}, {I: 0, J: 2}, {I: 1, J: 2}, {I: 2, J: 3}, {I: 3, J: 5}, {I: 4, J: 5}, {I: 4, J: 6}}; !ok || !slices.Equal(got, want) {
		t.Error(got, ok)
	}
	if got, ok := impl.CrossPairs(nil); !ok || len(got) != 0 {
		t.Error("none", got, ok)
	}
	if got, ok := impl.CrossPairs(repeated(seg(0, 0, 1, 0), 40)); !ok || len(got) != 780 || got[0] != (impl.Pair{I: 0, J: 1}) || got[39] != (impl.Pair{I: 1, J: 2}) || got[779] != (impl.Pair{I: 38, J: 39}) {
		t.Error("all with all", len(got), ok)
	}
}

func TestSweepsOfWrongOnes(t *testing.T) {
	for _, wrong := range wrongRows() {
		if got, ok := impl.HitsOf(wrong); ok || len(got) != 0 {
			t.Error("hits", wrong, got, ok)
		}
		if got, ok := impl.CrossPairs(wrong); ok || len(got) != 0 {
			t.Error("pairs", wrong, got, ok)
		}
		for _, p := range []impl.Point{point(0, 0, 1), point(1, 1, 2), point(1, 1, 1), {}} {
			if got := impl.HitAt(wrong, p); len(got) != 0 {
				t.Error("at", wrong, p, got)
			}
		}
		if impl.Quiet(wrong) {
			t.Error("quiet", wrong)
		}
	}
	ours := []impl.Seg{seg(-9, 0, 9, 0), seg(0, -9, 0, 9), seg(-9, -9, 9, 9)}
	for _, wrong := range wrongPoints() {
		if got := impl.HitAt(ours, wrong); len(got) != 0 {
			t.Error("point", wrong, got)
		}
	}
	// Alone, each of these would be quiet, but there is one too many.
	var apart []impl.Seg
	for i := range int64(41) {
		apart = append(apart, seg(0, i, 1, i))
	}
	if impl.Quiet(apart) || !impl.Quiet(apart[:40]) || len(impl.HitAt(apart, point(0, 0, 1))) != 0 || len(impl.HitAt(apart[:40], point(0, 0, 1))) != 1 {
		t.Error("one too many")
	}
}

func copyHits(hits []impl.Hit) []impl.Hit {
	var out []impl.Hit
	for _, h := range hits {
		out = append(out, hit(h.At, slices.Clip(slices.Clone(h.Segs))...))
	}
	return out
}

func TestSweepsLeaveMemoryAlone(t *testing.T) {
	for _, segs := range slices.Concat(ourSegs(), wrongRows()) {
		ours, row := roomySegs(segs)
		was := slices.Clone(row)
		for range 2 {
			hits, ok := impl.HitsOf(ours)
			wanted, wantedOk := impl.HitsOf(segs)
			pairs, _ := impl.CrossPairs(ours)
			wantedPairs, _ := impl.CrossPairs(segs)
			at := impl.HitAt(ours, point(3, 3, 1))
			if ok != wantedOk || !sameHits(hits, wanted) || !slices.Equal(pairs, wantedPairs) || !slices.Equal(at, impl.HitAt(segs, point(3, 3, 1))) || impl.Quiet(ours) != impl.Quiet(segs) {
				t.Error("another answer", segs)
			}
			kept := copyHits(hits)
			for i, h := range hits {
				scribble(h.Segs)
				if i%7 == 0 && !sameHits(hits[i+1:], kept[i+1:]) {
					t.Fatal("two lists share", segs)
				}
			}
			scribble(hits)
			scribble(pairs)
			scribble(at)
			if !slices.Equal(row, was) {
				t.Fatal("written into", segs)
			}
		}
	}
}
