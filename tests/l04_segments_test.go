package tests

import (
	"math"
	"math/big"
	"testing"

	"loop.example/g00225/impl"
)

const edge = 1000000

func spot(x, y int64) impl.Spot { return impl.Spot{X: x, Y: y} }

func placeAt(s impl.Spot) place {
	return place{new(big.Rat).SetInt64(s.X), new(big.Rat).SetInt64(s.Y)}
}

// span is what is left of a segment, by how far along it is from A (0) to B (1).
type span struct {
	low   *big.Rat
	high  *big.Rat
	empty bool
}

func wholeSpan() span {
	return span{low: big.NewRat(0, 1), high: big.NewRat(1, 1)}
}

// keep leaves of s where at + way u is not below 0.
func (s span) keep(at, way *big.Rat) span {
	if way.Sign() == 0 {
		s.empty = s.empty || at.Sign() < 0
		return s
	}
	u := new(big.Rat).Quo(new(big.Rat).Neg(at), way)
	if way.Sign() > 0 && u.Cmp(s.low) > 0 {
		s.low = u
	}
	if way.Sign() < 0 && u.Cmp(s.high) < 0 {
		s.high = u
	}
	s.empty = s.empty || s.low.Cmp(s.high) > 0
	return s
}

// within leaves where at + way u is from low to high.
func (s span) within(at, way, low, high *big.Rat) span {
	return s.keep(ratLess(at, low), way).keep(ratLess(high, at), new(big.Rat).Neg(way))
}

func along(s impl.Seg, u *big.Rat) place {
	a, b := placeAt(s.A), placeAt(s.B)
	return place{ratPlus(a.x, ratTimes(u, ratLess(b.x, a.x))), ratPlus(a.y, ratTimes(u, ratLess(b.y, a.y)))}
}

func inBox(s impl.Seg, low, high place) span {
	a, b := placeAt(s.A), placeAt(s.B)
	return wholeSpan().within(a.x, ratLess(b.x, a.x), low.x, high.x).within(a.y, ratLess(b.y, a.y), low.y, high.y)
}

// common is what s has in common with q: its points in the box of q that are on the line of q too.
func common(s, q impl.Seg) span {
	low := placeAt(spot(q.A.X, min(q.A.Y, q.B.Y)))
	high := placeAt(spot(q.B.X, max(q.A.Y, q.B.Y)))
	a, b, c, d := placeAt(s.A), placeAt(s.B), placeAt(q.A), placeAt(q.B)
	off := func(p place) *big.Rat {
		return ratLess(ratTimes(ratLess(d.x, c.x), ratLess(p.y, c.y)), ratTimes(ratLess(d.y, c.y), ratLess(p.x, c.x)))
	}
	none := new(big.Rat)
	return inBox(s, low, high).within(off(a), ratLess(off(b), off(a)), none, none)
}

func meetWanted(s, q impl.Seg) (int64, impl.Point, impl.Point) {
	left := common(s, q)
	if left.empty {
		return impl.MtNone, impl.Point{}, impl.Point{}
	}
	first, _ := pointAt(along(s, left.low))
	last, _ := pointAt(along(s, left.high))
	if first == last {
		return impl.MtPoint, first, impl.Point{}
	}
	return impl.MtSpan, first, last
}

// gridSegs are all segments between the spots of a lattice of n by n.
func gridSegs(n int64, by int64, from impl.Spot) []impl.Seg {
	var out []impl.Seg
	for i := range n * n {
		for j := range i {
			a := spot(from.X+j/n*by, from.Y+j%n*by)
			b := spot(from.X+i/n*by, from.Y+i%n*by)
			out = append(out, impl.Seg{A: a, B: b})
		}
	}
	return out
}

func (d *dice) coord(size int64) int64 {
	return int64(d.word()%uint64(2*size+1)) - size
}

func (d *dice) spot(size int64) impl.Spot {
	return spot(d.coord(size), d.coord(size))
}

func (d *dice) seg(size int64) impl.Seg {
	for {
		if s, ok := impl.SegOf(d.spot(size), d.spot(size)); ok {
			return s
		}
	}
}

// sizes are what thrown segments are made of: they touch the more often the smaller they are.
func (d *dice) size() int64 {
	return []int64{2, 3, 5, 9, 40, 1000, edge}[d.word()%7]
}

// segPairs are all pairs of a small lattice, of the corners of all there is, and thrown ones.
func segPairs(f func(s, q impl.Seg)) {
	for _, segs := range [][]impl.Seg{gridSegs(3, 1, spot(-1, -1)), gridSegs(3, edge, spot(-edge, -edge)), gridSegs(4, 1, spot(-1, 0))} {
		for _, s := range segs {
			for _, q := range segs {
				f(s, q)
			}
		}
	}
	d := dice(23)
	for range 6000 {
		size := d.size()
		f(d.seg(size), d.seg(size))
	}
	for range 500 {
		f(d.nearEnds(), d.nearEnds())
	}
}

// nearEnds are segments next to the corners, which cross at points of the greatest parts.
func (d *dice) nearEnds() impl.Seg {
	near := func() int64 { return (edge - int64(d.word()%3)) * (1 - 2*int64(d.word()%2)) }
	for {
		if s, ok := impl.SegOf(spot(near(), near()), spot(near(), near())); ok {
			return s
		}
	}
}

func wrongSpots() []impl.Spot {
	return []impl.Spot{
		spot(edge+1, 0), spot(0, edge+1), spot(-edge-1, 0), spot(0, -edge-1), spot(math.MaxInt64, 0), spot(0, math.MaxInt64), spot(math.MinInt64, 0), spot(0, math.MinInt64),
		spot(math.MinInt64, math.MaxInt64), spot(edge+1, edge+1),
	}
}

// wrongSegs are not right.
func wrongSegs() []impl.Seg {
	out := []impl.Seg{{}, {A: spot(1, 1), B: spot(1, 1)}, {A: spot(1, 0), B: spot(0, 0)}, {A: spot(0, 1), B: spot(0, 0)}, {A: spot(1, 0), B: spot(0, 1)}}
	for _, wrong := range wrongSpots() {
		out = append(out, impl.Seg{A: wrong, B: spot(0, 0)}, impl.Seg{A: spot(0, 0), B: wrong}, impl.Seg{A: wrong, B: wrong})
	}
	return out
}

func TestRightSpots(t *testing.T) {
	for _, x := range []int64{-edge, -1, 0, 1, edge} {
		for _, y := range []int64{-edge, -1, 0, 1, edge} {
			if !impl.SpotOk(spot(x, y)) {
				t.Error(x, y)
			}
		}
	}
	for _, s := range wrongSpots() {
		if impl.SpotOk(s) {
			t.Error(s)
		}
	}
	if impl.MaxCoord != edge || impl.MtNone != 0 || impl.MtPoint != 1 || impl.MtSpan != 2 || impl.MaxPart != 80 {
		t.Error("constants")
	}
}

func TestRightSegments(t *testing.T) {
	spots := append(wrongSpots(), spot(edge, edge), spot(-edge, -edge), spot(-edge, edge))
	for x := int64(-1); x <= 1; x++ {
		for y := int64(-1); y <= 1; y++ {
			spots = append(spots, spot(x, y))
		}
	}
	for _, a := range spots {
		for _, b := range spots {
			ahead := placeAt(a).order(placeAt(b))
			right := impl.SpotOk(a) && impl.SpotOk(b)
			if impl.SegOk(impl.Seg{A: a, B: b}) != (right && ahead == -1) {
				t.Error(a, b)
			}
			want := impl.Seg{A: a, B: b}
			if ahead == 1 {
				want = impl.Seg{A: b, B: a}
			}
			if ahead == 0 || !right {
				want = impl.Seg{}
			}
			got, ok := impl.SegOf(a, b)
			if got != want || ok != (right && ahead != 0) {
				t.Error(a, b, got, ok)
			}
		}
	}
}

// segPoints calls f with segments and with points on, over, beside and in line with them.
func segPoints(f func(s impl.Seg, p impl.Point)) {
	points := rightPoints()
	for x := int64(-6); x <= 6; x++ {
		for y := int64(-6); y <= 6; y++ {
			p, _ := pointFrom(big.NewInt(x), big.NewInt(y), big.NewInt(3))
			points = append(points, p)
		}
	}
	for _, s := range gridSegs(3, 1, spot(-1, -1)) {
		for _, p := range points {
			f(s, p)
		}
	}
	d := dice(29)
	for range 3000 {
		s := d.seg(d.size())
		p, _ := pointAt(along(s, big.NewRat(d.coord(9), 1+int64(d.word()%9))))
		f(s, p)
		off, ok := pointFrom(bigOf(p.X), new(big.Int).Add(bigOf(p.Y), big.NewInt(d.coord(1))), bigOf(p.W))
		if ok {
			f(s, off)
		}
		f(s, d.point())
	}
}

func TestSides(t *testing.T) {
	segPoints(func(s impl.Seg, p impl.Point) {
		a, b, c := placeAt(s.A), placeAt(s.B), placeOf(p)
		if got, want := impl.SideOf(s, p), a.turn(b, c); got != want || got != impl.Orient(impl.PointOf(s.A), impl.PointOf(s.B), p) {
			t.Error("side", s, p, got, want)
		}
		if got, want := impl.OnSeg(s, p), a.between(b, c); got != want || got != impl.Between(impl.PointOf(s.A), impl.PointOf(s.B), p) {
			t.Error("on", s, p, got, want)
		}
	})
}

// overWanted goes by the points that s has on the upright line.
func overWanted(s impl.Seg, p impl.Point) int64 {
	a, b, c := placeAt(s.A), placeAt(s.B), placeOf(p)
	there := wholeSpan().within(a.x, ratLess(b.x, a.x), c.x, c.x)
	if there.empty {
		return 2
	}
	first, last := along(s, there.low).y, along(s, there.high).y
	if c.y.Cmp(first) < 0 {
		return 1
	}
	if c.y.Cmp(last) > 0 {
		return -1
	}
	return 0
}

func TestOver(t *testing.T) {
	seen := map[int64]int{}
	segPoints(func(s impl.Seg, p impl.Point) {
		got := impl.OverAt(s, p)
		if want := overWanted(s, p); got != want {
			t.Error(s, p, got, want)
		}
		if s.A.X < s.B.X && got != 2 && got != -impl.SideOf(s, p) {
			t.Error("side", s, p, got)
		}
		if (got == 0) != impl.OnSeg(s, p) {
			t.Error("on", s, p, got)
		}
		seen[got]++
	})
	if seen[0] < 100 || seen[1] < 100 || seen[-1] < 100 || seen[2] < 100 {
		t.Error("too few of a kind", seen)
	}
}

func TestOverOfUprightAndSlanted(t *testing.T) {
	upright := impl.Seg{A: spot(1, -2), B: spot(1, 3)}
	slanted := impl.Seg{A: spot(-1, 2), B: spot(3, -1)}
	for _, c := range []struct {
		s    impl.Seg
		p    impl.Point
		want int64
	}{
		{upright, point(1, -3, 1), 1}, {upright, point(2, -5, 2), 1}, {upright, point(1, -2, 1), 0}, {upright, point(1, 0, 1), 0}, {upright, point(2, 5, 2), 0},
		{upright, point(1, 3, 1), 0}, {upright, point(2, 7, 2), -1}, {upright, point(1, 4, 1), -1}, {upright, point(0, 0, 1), 2}, {upright, point(3, 0, 2), 2}, {upright, point(1, 0, 2), 2},
		{slanted, point(-1, 2, 1), 0}, {slanted, point(-1, 3, 1), -1}, {slanted, point(-1, 1, 1), 1}, {slanted, point(3, -1, 1), 0}, {slanted, point(3, 0, 1), -1}, {slanted, point(3, -2, 1), 1},
		{slanted, point(2, 1, 2), 0}, {slanted, point(4, 1, 4), 1}, {slanted, point(4, 3, 4), -1}, {slanted, point(1, 0, 1), 1}, {slanted, point(1, 1, 1), -1},
		{slanted, point(7, -4, 2), 2}, {slanted, point(-3, 5, 2), 2},
	} {
		if got := impl.OverAt(c.s, c.p); got != c.want {
			t.Error(c.s, c.p, got, c.want)
		}
	}
}

func TestMeets(t *testing.T) {
	seen := map[int64]int{}
	segPairs(func(s, q impl.Seg) {
		kind, first, last := impl.Meet(s, q)
		seen[kind]++
		wantKind, wantFirst, wantLast := meetWanted(s, q)
		if kind != wantKind || first != wantFirst || last != wantLast {
			t.Error(s, q, kind, first, last, wantKind, wantFirst, wantLast)
		}
		if kind2, first2, last2 := impl.Meet(q, s); kind2 != kind || first2 != first || last2 != last {
			t.Error("turned", s, q, kind2, first2, last2)
		}
		if kind != impl.MtNone && !(impl.PointOk(first) && impl.OnSeg(s, first) && impl.OnSeg(q, first)) {
			t.Error("first not on both", s, q, first)
		}
		if kind == impl.MtSpan && !(impl.PointCmp(first, last) == -1 && impl.OnSeg(s, last) && impl.OnSeg(q, last)) {
			t.Error("last not on both", s, q, last)
		}
	})
	if seen[impl.MtNone] < 100 || seen[impl.MtPoint] < 100 || seen[impl.MtSpan] < 100 {
		t.Error("too few of a kind", seen)
	}
}

func seg(ax, ay, bx, by int64) impl.Seg { return impl.Seg{A: spot(ax, ay), B: spot(bx, by)} }

func TestMeetsOfOurOwn(t *testing.T) {
	none := impl.Point{}
	for i, c := range []struct {
		s, q        impl.Seg
		kind        int64
		first, last impl.Point
	}{
		{seg(0, 0, 2, 2), seg(3, 3, 4, 4), impl.MtNone, none, none},
		{seg(0, 0, 2, 2), seg(2, 2, 4, 4), impl.MtPoint, point(2, 2, 1), none},
		{seg(0, 0, 3, 3), seg(2, 2, 4, 4), impl.MtSpan, point(2, 2, 1), point(3, 3, 1)},
		{seg(0, 0, 4, 4), seg(1, 1, 2, 2), impl.MtSpan, point(1, 1, 1), point(2, 2, 1)},
		{seg(0, 0, 4, 4), seg(0, 0, 4, 4), impl.MtSpan, point(0, 0, 1), point(4, 4, 1)},
		{seg(0, 0, 4, 4), seg(0, 1, 4, 5), impl.MtNone, none, none},
		{seg(5, 0, 5, 2), seg(5, 3, 5, 4), impl.MtNone, none, none},
		{seg(5, 0, 5, 2), seg(5, 2, 5, 4), impl.MtPoint, point(5, 2, 1), none},
		{seg(5, 0, 5, 3), seg(5, 2, 5, 4), impl.MtSpan, point(5, 2, 1), point(5, 3, 1)},
		{seg(5, 0, 5, 3), seg(6, 0, 6, 3), impl.MtNone, none, none},
		{seg(0, 4, 4, 0), seg(1, 3, 3, 1), impl.MtSpan, point(1, 3, 1), point(3, 1, 1)},
		{seg(0, 0, 2, 0), seg(0, 0, 0, 2), impl.MtPoint, point(0, 0, 1), none},
		{seg(0, 0, 2, 0), seg(1, 0, 1, 2), impl.MtPoint, point(1, 0, 1), none},
		{seg(0, 0, 2, 0), seg(1, 1, 1, 2), impl.MtNone, none, none},
		{seg(0, 0, 2, 0), seg(3, -1, 3, 1), impl.MtNone, none, none},
		{seg(0, 0, 3, 1), seg(1, -1, 1, 1), impl.MtPoint, point(3, 1, 3), none},
		{seg(-edge, -edge, edge, edge), seg(-edge, edge, edge, -edge), impl.MtPoint, point(0, 0, 1), none},
		{seg(-edge, -edge, edge, edge), seg(-edge, edge-1, edge, -edge), impl.MtPoint, point(-edge, -edge, 4*edge-1), none},
		{seg(-edge, -edge, edge, edge), seg(-edge+1, -edge, edge, edge-1), impl.MtNone, none, none},
	} {
		kind, first, last := impl.Meet(c.s, c.q)
		if kind != c.kind || first != c.first || last != c.last {
			t.Error(i, kind, first, last)
		}
	}
}

func TestNearest(t *testing.T) {
	check := func(s impl.Seg, p impl.Spot) {
		got, ok := impl.Near2(s, p)
		a, b, c := placeAt(s.A), placeAt(s.B), placeAt(p)
		way := place{ratLess(b.x, a.x), ratLess(b.y, a.y)}
		u := ratPlus(ratTimes(ratLess(c.x, a.x), way.x), ratTimes(ratLess(c.y, a.y), way.y))
		u.Quo(u, a.far2(b))
		if u.Sign() < 0 {
			u.SetInt64(0)
		}
		if u.Cmp(big.NewRat(1, 1)) > 0 {
			u.SetInt64(1)
		}
		sameRatio(t, "nearest", got, ok, c.far2(along(s, u)))
		if (bigOf(got.Up).Sign() == 0) != impl.OnSeg(s, impl.PointOf(p)) {
			t.Error("nearest of its own", s, p)
		}
		for i := int64(0); i <= 5; i++ {
			asked, _ := pointAt(along(s, big.NewRat(i, 5)))
			far, _ := impl.Dist2(asked, impl.PointOf(p))
			if c, ok := impl.RatioCmp(got, far); c > 0 || !ok {
				t.Error("nearer than the nearest", s, p, got, far)
			}
		}
	}
	for _, s := range gridSegs(3, 1, spot(-1, -1)) {
		for x := int64(-3); x <= 3; x++ {
			for y := int64(-3); y <= 3; y++ {
				check(s, spot(x, y))
			}
		}
	}
	corners := gridSegs(3, edge, spot(-edge, -edge))
	for _, s := range corners {
		for _, q := range corners {
			check(s, q.A)
			check(s, q.B)
		}
	}
	d := dice(31)
	for range 2000 {
		size := d.size()
		check(d.seg(size), d.spot(size))
		check(d.nearEnds(), d.nearEnds().A)
	}
}

func boxes(f func(s impl.Seg, low, high impl.Spot)) {
	segs := gridSegs(3, 2, spot(-2, -2))
	segs = append(segs, gridSegs(3, 1, spot(-1, 0))...)
	segs = append(segs, seg(-3, -1, 2, 3), seg(-3, 2, 3, -1), seg(-3, 0, 0, 3), seg(-1, -3, 1, 3), seg(-edge, -edge, edge, edge), seg(-edge, 2, edge, 3))
	for _, s := range segs {
		for x := int64(-3); x <= 3; x++ {
			for y := int64(-3); y <= 3; y++ {
				for i := int64(-1); i <= 3; i++ {
					for j := int64(-1); j <= 3; j++ {
						f(s, spot(x, y), spot(x+i, y+j))
					}
				}
			}
		}
	}
	d := dice(37)
	for range 6000 {
		size := d.size()
		p, q := d.spot(size), d.spot(size)
		low, high := spot(min(p.X, q.X), min(p.Y, q.Y)), spot(max(p.X, q.X), max(p.Y, q.Y))
		f(d.seg(size), low, high)
		f(d.nearEnds(), low, high)
		switch d.word() % 3 {
		case 0:
			f(d.seg(size), low, low)
		case 1:
			f(d.seg(size), low, spot(low.X, high.Y))
		case 2:
			f(d.seg(size), low, spot(high.X, low.Y))
		}
	}
}

// bySideOrEnd is what promise 4 says of a box that is no line.
func bySideOrEnd(s impl.Seg, low, high impl.Spot) bool {
	for _, end := range []impl.Spot{s.A, s.B} {
		if low.X <= end.X && end.X <= high.X && low.Y <= end.Y && end.Y <= high.Y {
			return true
		}
	}
	for _, side := range []impl.Seg{{A: low, B: spot(low.X, high.Y)}, {A: low, B: spot(high.X, low.Y)}, {A: spot(low.X, high.Y), B: high}, {A: spot(high.X, low.Y), B: high}} {
		if kind, _, _ := impl.Meet(s, side); kind != impl.MtNone {
			return true
		}
	}
	return false
}

func TestMeetsOfBoxes(t *testing.T) {
	seen := map[bool]int{}
	boxes(func(s impl.Seg, low, high impl.Spot) {
		got := impl.MeetsBox(s, low, high)
		if low.X > high.X || low.Y > high.Y {
			if got {
				t.Error("no box", s, low, high)
			}
			return
		}
		if want := !inBox(s, placeAt(low), placeAt(high)).empty; got != want {
			t.Error(s, low, high, got, want)
		}
		if low.X < high.X && low.Y < high.Y && got != bySideOrEnd(s, low, high) {
			t.Error("by a side or an end", s, low, high, got)
		}
		seen[got]++
	})
	if seen[true] < 1000 || seen[false] < 1000 {
		t.Error("too few of a kind", seen)
	}
}

func TestBoxesOfOurOwn(t *testing.T) {
	slope := seg(0, 0, 4, 2)
	for i, c := range []struct {
		s         impl.Seg
		low, high impl.Spot
		want      bool
	}{
		{slope, spot(2, 1), spot(2, 1), true},
		{slope, spot(2, 2), spot(2, 2), false},
		{slope, spot(0, 0), spot(0, 0), true},
		{slope, spot(6, 3), spot(6, 3), false},
		{slope, spot(3, 0), spot(3, 5), true},
		{slope, spot(3, 2), spot(3, 5), false},
		{slope, spot(0, 1), spot(9, 1), true},
		{slope, spot(3, 1), spot(9, 1), false},
		{slope, spot(-2, -3), spot(0, 0), true},
		{slope, spot(-2, -3), spot(-1, 9), false},
		{slope, spot(4, 2), spot(9, 9), true},
		{slope, spot(0, 1), spot(2, 9), true},
		{slope, spot(2, -5), spot(9, 1), true},
		{slope, spot(3, -5), spot(9, 1), false},
		{slope, spot(1, 1), spot(1, 9), false},
		{slope, spot(-edge, -edge), spot(edge, edge), true},
		{seg(5, 1, 5, 3), spot(0, 0), spot(5, 9), true},
		{seg(5, 1, 5, 3), spot(5, 3), spot(9, 9), true},
		{seg(5, 1, 5, 3), spot(5, 4), spot(9, 9), false},
		{seg(5, 1, 5, 3), spot(6, 0), spot(9, 9), false},
		{seg(1, 9, 3, 9), spot(0, 0), spot(5, 9), true},
		{seg(1, 9, 3, 9), spot(0, 0), spot(5, 8), false},
		{seg(0, 3, 3, 0), spot(0, 0), spot(1, 1), false},
		{seg(0, 2, 2, 0), spot(0, 0), spot(1, 1), true},
	} {
		if got := impl.MeetsBox(c.s, c.low, c.high); got != c.want {
			t.Error(i, got)
		}
	}
}

func TestWrongSegmentsAreRefused(t *testing.T) {
	ours := seg(-1, -1, 3, 3)
	for _, wrong := range wrongSegs() {
		if impl.SegOk(wrong) {
			t.Error("right", wrong)
		}
		for _, p := range append(wrongPoints(), point(0, 0, 1), point(1, 1, 1), point(1, 5, 2)) {
			if impl.SideOf(wrong, p) != 0 || impl.OnSeg(wrong, p) || impl.OverAt(wrong, p) != 2 {
				t.Error("point", wrong, p)
			}
		}
		for _, other := range append(wrongSegs(), ours) {
			for _, pair := range [][2]impl.Seg{{wrong, other}, {other, wrong}} {
				if kind, first, last := impl.Meet(pair[0], pair[1]); kind != impl.MtNone || first != (impl.Point{}) || last != (impl.Point{}) {
					t.Error("meet", pair, kind, first, last)
				}
			}
		}
		for _, p := range append(wrongSpots(), spot(0, 0), spot(1, 0)) {
			if got, ok := impl.Near2(wrong, p); ok || got != (impl.Ratio{}) {
				t.Error("near", wrong, p, got, ok)
			}
		}
		if impl.MeetsBox(wrong, spot(-edge, -edge), spot(edge, edge)) {
			t.Error("box", wrong)
		}
	}
}

func TestWrongPointsAndSpotsOfSegments(t *testing.T) {
	ours := seg(-1, -1, 3, 3)
	for _, p := range wrongPoints() {
		if impl.SideOf(ours, p) != 0 || impl.OnSeg(ours, p) || impl.OverAt(ours, p) != 2 {
			t.Error(p)
		}
	}
	for _, wrong := range wrongSpots() {
		if got, ok := impl.Near2(ours, wrong); ok || got != (impl.Ratio{}) {
			t.Error("near", wrong, got, ok)
		}
		if impl.MeetsBox(ours, wrong, spot(edge, edge)) || impl.MeetsBox(ours, spot(-edge, -edge), wrong) || impl.MeetsBox(ours, wrong, wrong) {
			t.Error("box", wrong)
		}
	}
	if impl.MeetsBox(ours, spot(3, 0), spot(2, 3)) || impl.MeetsBox(ours, spot(0, 3), spot(3, 2)) || impl.MeetsBox(ours, spot(3, 3), spot(0, 0)) {
		t.Error("box whose low is above its high")
	}
}
