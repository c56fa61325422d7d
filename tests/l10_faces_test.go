package tests

import (
	"math"
	"math/big"
	"slices"
	"testing"

	"loop.example/g00225/impl"
)

func sameFace(a, b impl.Face) bool {
	return a.Outer == b.Outer && slices.Equal(a.Holes, b.Holes)
}

func sameDcel(a, b impl.Dcel) bool {
	return slices.Equal(a.Halves, b.Halves) && slices.EqualFunc(a.Faces, b.Faces, sameFace)
}

// faces are what chapter 10 tells of segments, worked out from their plan another way.
type faces struct {
	plan   impl.Plan
	dcel   impl.Dcel
	cycles [][]int64
	areas  []*big.Rat
	// cycle has for each half the place of its cycle, pieces for each point the number of its piece.
	cycle  []int
	pieces []int64
}

// putHalves goes round each point by turns.
func (f *faces) putHalves() {
	for e, edge := range f.plan.Edges {
		there, back := int64(2*e), int64(2*e+1)
		f.dcel.Halves = append(f.dcel.Halves, impl.Half{From: edge.From, To: edge.To, Twin: back}, impl.Half{From: edge.To, To: edge.From, Twin: there})
	}
	for v := range f.plan.Points {
		around := aroundWanted(f.plan, int64(v))
		for i, h := range around {
			next := around[(i+len(around)-1)%len(around)]
			f.dcel.Halves[h^1].Next = next
			f.dcel.Halves[next].Prev = h ^ 1
		}
	}
}

func (f *faces) putCycles() {
	f.cycle = slices.Repeat([]int{-1}, len(f.dcel.Halves))
	for first := range f.dcel.Halves {
		if f.cycle[first] >= 0 {
			continue
		}
		var round []int64
		for h := int64(first); f.cycle[h] < 0; h = f.dcel.Halves[h].Next {
			f.cycle[h] = len(f.cycles)
			round = append(round, h)
		}
		f.cycles = append(f.cycles, round)
		f.areas = append(f.areas, f.areaOf(round))
	}
}

// areaOf adds up what lies below each half, or above it.
func (f *faces) areaOf(round []int64) *big.Rat {
	sum := new(big.Rat)
	for _, h := range round {
		a, b := placeOf(f.plan.Points[f.dcel.Halves[h].From]), placeOf(f.plan.Points[f.dcel.Halves[h].To])
		sum.Add(sum, ratTimes(ratLess(a.x, b.x), ratPlus(a.y, b.y)))
	}
	return sum
}

// putPieces takes for each point the least point that can be reached, as long as there is a lesser one.
func (f *faces) putPieces() {
	least := make([]int64, len(f.plan.Points))
	for v := range least {
		least[v] = int64(v)
	}
	for changed := true; changed; {
		changed = false
		for _, edge := range f.plan.Edges {
			low := min(least[edge.From], least[edge.To])
			changed = changed || low != least[edge.From] || low != least[edge.To]
			least[edge.From], least[edge.To] = low, low
		}
	}
	var firsts []int64
	for v, low := range least {
		if low == int64(v) {
			firsts = append(firsts, low)
		}
		f.pieces = append(f.pieces, int64(slices.Index(firsts, low)))
	}
}

// goesRound tells whether a point that is not on the cycle lies within it: a way straight up crosses it an odd number of times.
func (f *faces) goesRound(round []int64, p place) bool {
	odd := false
	for _, h := range round {
		a, b := placeOf(f.plan.Points[f.dcel.Halves[h].From]), placeOf(f.plan.Points[f.dcel.Halves[h].To])
		if b.x.Cmp(a.x) < 0 {
			a, b = b, a
		}
		if a.x.Cmp(p.x) <= 0 && p.x.Cmp(b.x) < 0 && a.turn(b, p) < 0 {
			odd = !odd
		}
	}
	return odd
}

func (f *faces) pieceOf(c int) int64 {
	return f.pieces[f.dcel.Halves[f.cycles[c][0]].From]
}

// outerRound is the least of the cycles of other pieces that go round the cycle number hole.
func (f *faces) outerRound(hole int) int {
	at := placeOf(f.plan.Points[f.dcel.Halves[f.cycles[hole][0]].From])
	found := -1
	for c, round := range f.cycles {
		if f.areas[c].Sign() <= 0 || f.pieceOf(c) == f.pieceOf(hole) || !f.goesRound(round, at) {
			continue
		}
		if found < 0 || f.areas[c].Cmp(f.areas[found]) < 0 {
			found = c
		}
	}
	return found
}

func (f *faces) putFaces() {
	f.dcel.Faces = []impl.Face{{Outer: -1}}
	faceOf := make([]int64, len(f.cycles))
	for c, round := range f.cycles {
		if f.areas[c].Sign() > 0 {
			faceOf[c] = int64(len(f.dcel.Faces))
			f.dcel.Faces = append(f.dcel.Faces, impl.Face{Outer: round[0]})
		}
	}
	for c, round := range f.cycles {
		if f.areas[c].Sign() <= 0 {
			if outer := f.outerRound(c); outer >= 0 {
				faceOf[c] = faceOf[outer]
			}
			face := &f.dcel.Faces[faceOf[c]]
			face.Holes = append(face.Holes, round[0])
		}
	}
	for h, c := range f.cycle {
		f.dcel.Halves[h].Face = faceOf[c]
	}
}

func facesWanted(segs []impl.Seg) *faces {
	f := &faces{}
	f.plan, _ = impl.PlanOf(segs)
	f.putHalves()
	f.putCycles()
	f.putPieces()
	f.putFaces()
	return f
}

// areaTold is the area of a cycle, if it is told.
func (f *faces) areaTold(c int) (impl.Ratio, bool) {
	if len(f.cycles[c]) > 60 {
		return impl.Ratio{}, false
	}
	return ratioFrom(f.areas[c])
}

// pickedOf are at most some numbers below n, from all over.
func pickedOf(n int, some int) []int64 {
	var out []int64
	for i := 0; i < n; i += 1 + n/some {
		out = append(out, int64(i))
	}
	return out
}

func countsOf(segs []impl.Seg) [5]int64 {
	points, edges, faces, pieces, ok := impl.Euler(segs)
	if !ok {
		return [5]int64{points, edges, faces, pieces, 0}
	}
	return [5]int64{points, edges, faces, pieces, 1}
}

func (f *faces) counts() [5]int64 {
	pieces := int64(0)
	for _, n := range f.pieces {
		pieces = max(pieces, n+1)
	}
	return [5]int64{int64(len(f.plan.Points)), int64(len(f.plan.Edges)), int64(len(f.dcel.Faces)), pieces, 1}
}

// checkHalf asks all that is asked of one half.
func (f *faces) checkHalf(t *testing.T, segs []impl.Seg, h int64) {
	t.Helper()
	c := f.cycle[h]
	if got, ok := impl.CycleOf(segs, h); !ok || !slices.Equal(got, f.cycles[c]) {
		t.Fatal("cycle", segs, h, got, ok, f.cycles[c])
	}
	if got := impl.FaceOf(segs, h); got != f.dcel.Halves[h].Face {
		t.Fatal("face", segs, h, got, f.dcel.Halves[h].Face)
	}
	want, told := f.areaTold(c)
	if got, ok := impl.CycleArea2(segs, h); ok != told || got != want {
		t.Fatal("area", segs, h, got, ok, f.areas[c])
	}
}

// checkFaces asks of segments all that chapter 10 tells, of some halves.
func checkFaces(t *testing.T, segs []impl.Seg, some int) *faces {
	t.Helper()
	f := facesWanted(segs)
	if got, ok := impl.DcelOf(segs); !ok || !sameDcel(got, f.dcel) {
		t.Fatal("halves and faces", segs, got, ok, f.dcel)
	}
	if got, ok := impl.PiecesOf(segs); !ok || !slices.Equal(got, f.pieces) {
		t.Fatal("pieces", segs, got, ok, f.pieces)
	}
	if got := countsOf(segs); got != f.counts() {
		t.Fatal("counts", segs, got, f.counts())
	}
	for _, h := range pickedOf(len(f.dcel.Halves), some) {
		f.checkHalf(t, segs, h)
	}
	for c, round := range f.cycles {
		if _, told := f.areaTold(c); !told {
			f.checkHalf(t, segs, round[0])
		}
	}
	return f
}

// comesTwice tells whether a cycle has a point twice.
func (f *faces) comesTwice(round []int64) bool {
	seen := map[int64]int{}
	for _, h := range round {
		seen[f.dcel.Halves[h].From]++
	}
	return len(seen) < len(round)
}

// goesBack tells whether a cycle has both halves of an edge.
func (f *faces) goesBack(round []int64) bool {
	return slices.ContainsFunc(round, func(h int64) bool { return slices.Contains(round, h^1) })
}

// count notes what kinds of cycles and faces there are.
func (f *faces) count(seen map[string]int) {
	for c, round := range f.cycles {
		outer := f.areas[c].Sign() > 0
		_, told := f.areaTold(c)
		_, up := wideOf(f.areas[c].Num())
		_, down := wideOf(f.areas[c].Denom())
		for kind, is := range map[string]bool{
			"outer": outer, "hole": !outer, "outer that comes twice": outer && f.comesTwice(round), "hole that comes twice": !outer && f.comesTwice(round), "outer with a loose end": outer && f.goesBack(round),
			"broken": told && !f.areas[c].IsInt(), "not told": !told && len(round) <= 60, "long": len(round) > 60, "told but for its up": !up && down && len(round) <= 60, "told but for its down": up && !down && len(round) <= 60, "hole in a face": !outer && f.dcel.Halves[round[0]].Face > 0,
		} {
			if is {
				seen[kind]++
			}
		}
	}
	for i, face := range f.dcel.Faces {
		if i > 0 && len(face.Holes) > 1 {
			seen["face with holes"]++
		}
	}
}

// squares are nested ones, each n in from the last one.
func squares(count, n int64) []impl.Seg {
	var out []impl.Seg
	for i := range count {
		out = append(out, segsWanted(square(i*n, i*n, 2*n*(count-i)))...)
	}
	return out
}

// shortSegs are thrown segments of a lattice that are not far from end to end, so that many hang together with few.
func (d *dice) shortSegs(n int, size int64) []impl.Seg {
	var out []impl.Seg
	for len(out) < n {
		a, by := d.spot(size), d.spot(2)
		if s, ok := impl.SegOf(a, spot(a.X+by.X, a.Y+by.Y)); ok {
			out = append(out, s)
		}
	}
	return out
}

// crumbs are short segments thrown into squares, most of them in some face.
func (d *dice) crumbs(size int64) []impl.Seg {
	out := segsWanted(square(-size, -size, 2*size))
	for range 3 {
		at := d.spot(size - 1)
		side := 1 + int64(d.word()%uint64(size))
		out = append(out, segsWanted(square(at.X, at.Y, side))...)
	}
	return append(out, d.shortSegs(16, size)...)
}

// beside is a spot next to the way from the middle to v, on its left: their cross is 1, which v must allow.
func beside(v impl.Spot) (impl.Spot, bool) {
	common, x, y := new(big.Int), new(big.Int), new(big.Int)
	common.GCD(x, y, big.NewInt(v.X), big.NewInt(v.Y))
	u := spot(-y.Int64(), x.Int64())
	if u.X*v.X+u.Y*v.Y < 0 {
		u = spot(u.X+v.X, u.Y+v.Y)
	}
	return u, common.IsInt64() && common.Int64() == 1
}

// needle are segments that go round the middle at less than a part in 500000: a face of seven sides and next to no area.
func (d *dice) needle() []impl.Seg {
	var out []impl.Seg
	for _, to := range []impl.Spot{spot(10, 0), spot(6, 8), spot(-2, 10), spot(-9, 4), spot(-9, -4), spot(-2, -10), spot(6, -8)} {
		for {
			v := spot(45000*to.X+d.coord(9999), 45000*to.Y+d.coord(9999))
			if u, ok := beside(v); ok {
				s, _ := impl.SegOf(spot(-v.X, -v.Y), spot(u.X+v.X, u.Y+v.Y))
				out = append(out, s)
				break
			}
		}
	}
	return out
}

func TestFaces(t *testing.T) {
	t.Parallel()
	seen := map[string]int{}
	for _, segs := range rightSegs() {
		some := 40
		if len(segs) > 15 {
			some = 8
		}
		checkFaces(t, segs, some).count(seen)
	}
	d := dice(101)
	for i := range 150 {
		size := 3 + int64(i%6)
		checkFaces(t, d.shortSegs(3+i%30, size), 12).count(seen)
		checkFaces(t, d.crumbs(size), 12).count(seen)
	}
	for range 20 {
		checkFaces(t, d.needle(), 20).count(seen)
	}
	for _, kind := range []string{"outer", "hole", "outer that comes twice", "hole that comes twice", "outer with a loose end", "broken", "not told", "hole in a face", "face with holes"} {
		if seen[kind] < 30 {
			t.Error("too few of a kind", kind, seen)
		}
	}
	if seen["long"] < 10 || seen["told but for its up"] < 10 || seen["told but for its down"] < 10 {
		t.Error("too few of a kind", seen)
	}
}

// TestFacesOfSmallLattices takes thrown segments where nearly all touch, lie over one another or go through one point.
func TestFacesOfSmallLattices(t *testing.T) {
	t.Parallel()
	d := dice(103)
	for i := range 400 {
		checkFaces(t, d.segs(2+i%9, 1+int64(i%3)), 100)
	}
}

func cutHalf(from, to, twin, next, prev, face int64) impl.Half {
	return impl.Half{From: from, To: to, Twin: twin, Next: next, Prev: prev, Face: face}
}

func open(holes ...int64) impl.Face { return impl.Face{Outer: -1, Holes: holes} }

func closed(outer int64, holes ...int64) impl.Face { return impl.Face{Outer: outer, Holes: holes} }

func TestHalvesOfOurOwn(t *testing.T) {
	for i, c := range []struct {
		segs []impl.Seg
		want impl.Dcel
	}{
		{nil, impl.Dcel{Faces: []impl.Face{open()}}}, {[]impl.Seg{}, impl.Dcel{Faces: []impl.Face{open()}}},
		{[]impl.Seg{seg(0, 0, 1, 0)}, impl.Dcel{Halves: []impl.Half{cutHalf(0, 1, 1, 1, 1, 0), cutHalf(1, 0, 0, 0, 0, 0)}, Faces: []impl.Face{open(0)}}},
		{repeated(seg(0, 0, 0, 7), 40), impl.Dcel{Halves: []impl.Half{cutHalf(0, 1, 1, 1, 1, 0), cutHalf(1, 0, 0, 0, 0, 0)}, Faces: []impl.Face{open(0)}}},
		{[]impl.Seg{seg(0, 0, 1, 0), seg(0, 5, 1, 5)}, impl.Dcel{
			Halves: []impl.Half{cutHalf(0, 2, 1, 1, 1, 0), cutHalf(2, 0, 0, 0, 0, 0), cutHalf(1, 3, 3, 3, 3, 0), cutHalf(3, 1, 2, 2, 2, 0)}, Faces: []impl.Face{open(0, 2)},
		}},
		{[]impl.Seg{seg(0, 0, 1, 1), seg(1, 1, 2, 0)}, impl.Dcel{
			Halves: []impl.Half{cutHalf(0, 1, 1, 2, 1, 0), cutHalf(1, 0, 0, 0, 3, 0), cutHalf(1, 2, 3, 3, 0, 0), cutHalf(2, 1, 2, 1, 2, 0)}, Faces: []impl.Face{open(0)},
		}},
		// A triangle: the points are (0, 0), (1, 1), (2, 0).
		{[]impl.Seg{seg(0, 0, 2, 0), seg(0, 0, 1, 1), seg(1, 1, 2, 0)}, impl.Dcel{
			Halves: []impl.Half{cutHalf(0, 1, 1, 4, 3, 0), cutHalf(1, 0, 0, 2, 5, 1), cutHalf(0, 2, 3, 5, 1, 1), cutHalf(2, 0, 2, 0, 4, 0), cutHalf(1, 2, 5, 3, 0, 0), cutHalf(2, 1, 4, 1, 2, 1)},
			Faces:  []impl.Face{open(0), closed(1)},
		}},
	} {
		if got, ok := impl.DcelOf(c.segs); !ok || !sameDcel(got, c.want) {
			t.Error(i, got, ok)
		}
	}
}

// areasOf has for each face the text of the area of its outer cycle, 0 where there is none, then of its holes.
func areasOf(segs []impl.Seg) [][]string {
	d, _ := impl.DcelOf(segs)
	var out [][]string
	for _, face := range d.Faces {
		row := []string{"0"}
		if face.Outer >= 0 {
			area, _ := impl.CycleArea2(segs, face.Outer)
			row[0] = impl.RatioText(area)
		}
		for _, hole := range face.Holes {
			area, _ := impl.CycleArea2(segs, hole)
			row = append(row, impl.RatioText(area))
		}
		out = append(out, row)
	}
	return out
}

func TestFacesOfOurOwn(t *testing.T) {
	join := slices.Concat[[]impl.Seg]
	big := segsWanted(square(0, 0, 10))
	eight := []impl.Seg{seg(2, 2, 4, 2), seg(2, 2, 2, 4), seg(2, 4, 4, 2), seg(4, 2, 6, 2), seg(4, 2, 6, 0), seg(6, 0, 6, 2)}
	var many []impl.Seg
	for i := range int64(36) {
		many = append(many, seg(1+3*(i%6), 1+3*(i/6), 2+3*(i%6), 1+3*(i/6)))
	}
	for i, c := range []struct {
		segs   []impl.Seg
		pieces int64
		want   [][]string
	}{
		{nil, 0, [][]string{{"0"}}},
		{[]impl.Seg{seg(0, 0, 9, 4)}, 1, [][]string{{"0", "0"}}},
		{big, 1, [][]string{{"0", "-200"}, {"200"}}},
		// A loose end within, one outside, one that goes through a side, and one apart from it within and outside.
		{join(big, []impl.Seg{seg(0, 0, 3, 3)}), 1, [][]string{{"0", "-200"}, {"200"}}},
		{join(big, []impl.Seg{seg(-3, -3, 0, 0)}), 1, [][]string{{"0", "-200"}, {"200"}}},
		{join(big, []impl.Seg{seg(5, 9, 5, 12)}), 1, [][]string{{"0", "-200"}, {"200"}}},
		{join(big, []impl.Seg{seg(4, 5, 6, 5)}), 2, [][]string{{"0", "-200"}, {"200", "0"}}},
		{join(big, []impl.Seg{seg(4, 15, 6, 15)}), 2, [][]string{{"0", "-200", "0"}, {"200"}}},
		// Pieces within pieces, six deep, and one more beside each.
		{squares(6, 2), 6, [][]string{{"0", "-1152"}, {"1152", "-800"}, {"800", "-512"}, {"512", "-288"}, {"288", "-128"}, {"128", "-32"}, {"32"}}},
		{join(squares(3, 9), []impl.Seg{seg(-1, 0, -1, 1), seg(1, 3, 2, 3), seg(10, 11, 11, 11), seg(20, 20, 21, 20)}), 7, [][]string{{"0", "0", "-5832"}, {"5832", "0", "-2592"}, {"2592", "0", "-648"}, {"648", "0"}}},
		{join(segsWanted(square(0, 0, 20)), many), 37, [][]string{{"0", "-800"}, slices.Concat([]string{"800"}, slices.Repeat([]string{"0"}, 36))}},
		// Two that touch in one point have it twice in the cycle round both.
		{eight, 1, [][]string{{"0", "-8"}, {"4"}, {"4"}}},
		{join(segsWanted(square(0, -2, 10)), eight), 2, [][]string{{"0", "-200"}, {"200", "-8"}, {"4"}, {"4"}}},
		// One that hangs at a corner, or at a side, from within: the cycle round what is left has the point twice.
		{join(big, []impl.Seg{seg(0, 0, 3, 1), seg(0, 0, 1, 3), seg(1, 3, 3, 1)}), 1, [][]string{{"0", "-200"}, {"192"}, {"8"}}},
		{join(big, []impl.Seg{seg(5, 0, 6, 2), seg(4, 2, 5, 0), seg(4, 2, 6, 2)}), 1, [][]string{{"0", "-200"}, {"196"}, {"4"}}},
		// Straight below what lies within ends an upright one, one from the left, two that go on, an upright one and one that goes on or comes, a loose one.
		{join(big, []impl.Seg{seg(5, 0, 5, 4), seg(5, 6, 6, 6)}), 2, [][]string{{"0", "-200"}, {"200", "0"}}},
		{join(big, []impl.Seg{seg(0, 4, 5, 4), seg(5, 6, 6, 6)}), 2, [][]string{{"0", "-200"}, {"200", "0"}}},
		{join(big, []impl.Seg{seg(5, 4, 10, 2), seg(5, 4, 10, 3), seg(5, 6, 6, 6)}), 2, [][]string{{"0", "-200"}, {"195", "0"}, {"5"}}},
		{join(big, []impl.Seg{seg(5, 0, 5, 4), seg(5, 4, 10, 4), seg(5, 6, 6, 6)}), 2, [][]string{{"0", "-200"}, {"160", "0"}, {"40"}}},
		{join(big, []impl.Seg{seg(5, 0, 5, 4), seg(0, 4, 5, 4), seg(5, 6, 6, 6)}), 2, [][]string{{"0", "-200"}, {"40"}, {"160", "0"}}},
		{join(big, []impl.Seg{seg(5, 2, 5, 4), seg(5, 6, 6, 6)}), 3, [][]string{{"0", "-200"}, {"200", "0", "0"}}},
		// Straight above it ends one, or one goes by on either side.
		{join(big, []impl.Seg{seg(5, 8, 5, 10), seg(5, 6, 6, 6), seg(5, 3, 6, 4)}), 3, [][]string{{"0", "-200"}, {"200", "0", "0"}}},
		{join(big, []impl.Seg{seg(0, 0, 10, 10), seg(5, 6, 6, 7), seg(5, 4, 6, 5)}), 3, [][]string{{"0", "-200"}, {"100", "0"}, {"100", "0"}}},
		{join(big, []impl.Seg{seg(0, 0, 10, 10), seg(0, 10, 10, 0), seg(5, 6, 5, 7), seg(3, 5, 4, 5), seg(6, 5, 7, 5), seg(5, 3, 5, 4)}), 5, [][]string{{"0", "-200"}, {"50", "0"}, {"50", "0"}, {"50", "0"}, {"50", "0"}}},
		// An area that is no whole number, and the greatest there is.
		{[]impl.Seg{seg(0, 0, 2, 1), seg(0, 1, 1, 0), seg(0, 1, 2, 0)}, 1, [][]string{{"0", "-1/3"}, {"1/3"}}},
		{segsWanted(square(-edge, -edge, 2*edge)), 1, [][]string{{"0", "-8000000000000"}, {"8000000000000"}}},
	} {
		if got := areasOf(c.segs); !slices.EqualFunc(got, c.want, slices.Equal[[]string]) {
			t.Error(i, got, c.want)
		}
		if got := countsOf(c.segs); got[2] != int64(len(c.want)) || got[3] != c.pieces || got[4] != 1 {
			t.Error(i, got)
		}
		checkFaces(t, c.segs, 100)
	}
}

func TestPiecesOfOurOwn(t *testing.T) {
	for i, c := range []struct {
		segs []impl.Seg
		want []int64
	}{
		{nil, nil}, {[]impl.Seg{}, nil}, {[]impl.Seg{seg(0, 0, 1, 0)}, []int64{0, 0}}, {repeated(seg(0, 0, 0, 9), 40), []int64{0, 0}},
		{[]impl.Seg{seg(0, 0, 3, 0), seg(1, 1, 2, 1)}, []int64{0, 1, 1, 0}}, {[]impl.Seg{seg(1, 1, 2, 1), seg(0, 0, 3, 0)}, []int64{0, 1, 1, 0}}, {[]impl.Seg{seg(0, 0, 3, 0), seg(1, 0, 2, 0)}, []int64{0, 0, 0, 0}},
		{[]impl.Seg{seg(0, 0, 2, 2), seg(0, 2, 2, 0)}, []int64{0, 0, 0, 0, 0}},
		// Three by turns, and two of which a third one makes one, far to the right.
		{[]impl.Seg{seg(0, 0, 3, 0), seg(0, 1, 3, 1), seg(0, 2, 3, 2)}, []int64{0, 1, 2, 0, 1, 2}},
		{[]impl.Seg{seg(0, 0, 3, 0), seg(0, 1, 3, 1), seg(0, 2, 3, 2), seg(3, 0, 4, 0), seg(3, 2, 4, 0)}, []int64{0, 1, 0, 0, 1, 0, 0}},
	} {
		if got, ok := impl.PiecesOf(c.segs); !ok || !slices.Equal(got, c.want) {
			t.Error(i, got, ok, c.want)
		}
	}
}

// tailed are segments with n loose ones at their first spot, all to its left.
func tailed(segs []impl.Seg, n int64) []impl.Seg {
	out := slices.Clone(segs)
	for i := range n {
		out = append(out, seg(segs[0].A.X-3, segs[0].A.Y+i, segs[0].A.X, segs[0].A.Y))
	}
	return out
}

// TestLongCycles has cycles of 60 halves, and of more: only of these the area is not told.
func TestLongCycles(t *testing.T) {
	three := []impl.Seg{seg(0, 0, 4, 0), seg(0, 0, 4, 3), seg(4, 0, 4, 3)}
	four := segsWanted(square(0, 0, 7))
	path := func(n int64) []impl.Seg {
		var out []impl.Seg
		for i := range n {
			out = append(out, seg(i, i%2, i+1, (i+1)%2))
		}
		return out
	}
	for i, c := range []struct {
		segs []impl.Seg
		n    int
		area string
	}{
		{path(30), 60, "0"}, {path(31), 62, ""}, {path(40), 80, ""}, {tailed(three, 28), 59, "-12"}, {tailed(three, 29), 61, ""}, {tailed(three, 37), 77, ""}, {tailed(four, 28), 60, "-98"}, {tailed(four, 29), 62, ""},
	} {
		round, ok := impl.CycleOf(c.segs, 0)
		if !ok || len(round) != c.n {
			t.Error(i, round, ok)
		}
		checkFaces(t, c.segs, 100)
		for _, h := range []int64{0, round[1], round[c.n-1]} {
			area, ok := impl.CycleArea2(c.segs, h)
			if impl.RatioText(area) != c.area || ok != (c.area != "") || !ok && area != (impl.Ratio{}) {
				t.Error(i, h, area, ok)
			}
		}
	}
	// Within a square, with loose ends at its first spot: the cycle within is long, the one round it is not.
	for n, area := range map[int64]string{28: "3200", 29: ""} {
		segs := segsWanted(square(0, 0, 40))
		for i := range n {
			segs = append(segs, seg(0, 0, 30-i, 2+i/2))
		}
		d, _ := impl.DcelOf(segs)
		got, ok := impl.CycleArea2(segs, d.Faces[1].Outer)
		if impl.RatioText(got) != area || ok != (area != "") {
			t.Error("within", n, got, ok)
		}
		if got, ok := impl.CycleArea2(segs, d.Faces[0].Holes[0]); !ok || impl.RatioText(got) != "-3200" {
			t.Error("round it", n, got, ok)
		}
	}
}

// TestAreasThatGrow has cycles whose areas are told, though what stands between is not: there and back over points of great parts.
func TestAreasThatGrow(t *testing.T) {
	d := dice(107)
	found := 0
	for i := range 200 {
		n := 6 + i%5
		var segs []impl.Seg
		// Each crosses the next one alone, at its right end.
		for k := range n {
			x, up := int64(k)*90000-edge/2, int64(k%2)*2-1
			segs = append(segs, seg(x+d.coord(999), up*(edge/2+d.coord(9999)), x+100000+d.coord(999), -up*(edge/2+d.coord(9999))))
		}
		f := facesWanted(segs)
		if len(f.cycles) != 1 || len(f.cycles[0]) > 60 {
			continue
		}
		bits := 0
		for _, p := range f.plan.Points {
			bits += int(impl.WideBits(p.W))
		}
		if bits > 255 {
			found++
		}
		if area, ok := impl.CycleArea2(segs, 3); !ok || area != ratio(0, 1) {
			t.Fatal(segs, area, ok)
		}
		// A triangle at the end of the last one.
		end := segs[n-1].B
		segs = append(segs, seg(end.X, end.Y, end.X+10, end.Y), seg(end.X, end.Y, end.X+10, end.Y+10), seg(end.X+10, end.Y, end.X+10, end.Y+10))
		if area, ok := impl.CycleArea2(segs, 3); !ok || area != ratio(-100, 1) {
			t.Fatal(segs, area, ok)
		}
	}
	if found < 50 {
		t.Error("too few of a kind", found)
	}
}

// checkPromise10 leans on nothing but the answers.
func checkPromise10(t *testing.T, segs []impl.Seg) bool {
	t.Helper()
	d, _ := impl.DcelOf(segs)
	for i, h := range d.Halves {
		twin, next, prev := d.Halves[h.Twin], d.Halves[h.Next], d.Halves[h.Prev]
		if h.Twin == int64(i) || twin.Twin != int64(i) || twin.From != h.To || twin.To != h.From || next.Prev != int64(i) || prev.Next != int64(i) || next.From != h.To || next.Face != h.Face {
			t.Fatal("half", segs, i, h)
		}
	}
	n := countsOf(segs)
	if n[0]-n[1]+n[2] != n[3]+1 || n[2] != int64(len(d.Faces)) || 2*n[1] != int64(len(d.Halves)) {
		t.Fatal("counts", segs, n)
	}
	sum, all, named := ratio(0, 1), true, 0
	for i, face := range d.Faces {
		cycles := slices.Clone(face.Holes)
		if i > 0 {
			cycles = append(cycles, face.Outer)
		}
		for k, h := range cycles {
			round, _ := impl.CycleOf(segs, h)
			area, ok := impl.CycleArea2(segs, h)
			if len(round) == 0 || slices.Min(round) != h || round[0] != h || slices.ContainsFunc(round, func(g int64) bool { return d.Halves[g].Face != int64(i) }) {
				t.Fatal("cycle", segs, i, h, round)
			}
			if isOuter := k == len(face.Holes); ok && isOuter != (impl.WideSign(area.Up) > 0) {
				t.Fatal("area", segs, i, h, area)
			}
			named += len(round)
			if ok {
				sum, ok = impl.RatioAdd(sum, area)
			}
			all = all && ok
		}
	}
	if named != len(d.Halves) || all && sum != ratio(0, 1) {
		t.Fatal("all together", segs, named, sum)
	}
	return all && len(d.Faces) > 1
}

func TestPromise10(t *testing.T) {
	t.Parallel()
	d := dice(109)
	added := 0
	for _, segs := range slices.Concat(rightSegs(), [][]impl.Seg{squares(10, 1), squares(10, 50000), d.crumbs(6), d.crumbs(9), d.shortSegs(40, 9)}) {
		if len(segs) < 25 || countsOf(segs)[2] < 60 {
			if checkPromise10(t, segs) {
				added++
			}
		}
	}
	if added < 60 {
		t.Error("too few of a kind", added)
	}
}

// TestGreatestFaces has 40 segments: all cross all, all through one point, a lattice, squares in squares, all apart.
func TestGreatestFaces(t *testing.T) {
	t.Parallel()
	var crossed, through, apart []impl.Seg
	for i := range int64(40) {
		crossed = append(crossed, seg(-1000, i*i*i, 1000, -i*i*i+i))
		through = append(through, seg(-100, i-20, 100, 20-i))
		apart = append(apart, seg(i, -i, i+100, 100-i))
	}
	for i, c := range []struct {
		segs []impl.Seg
		want [5]int64
	}{
		{through, [5]int64{81, 80, 1, 1, 1}}, {apart, [5]int64{80, 40, 1, 40, 1}}, {fence(20), [5]int64{480, 840, 362, 1, 1}}, {squares(10, 50000), [5]int64{40, 40, 11, 10, 1}}, {slices.Repeat(squares(2, 3), 5), [5]int64{8, 8, 3, 2, 1}},
	} {
		f := checkFaces(t, c.segs, 20)
		if f.counts() != c.want {
			t.Error(i, f.counts())
		}
	}
	if f := checkFaces(t, crossed, 12); len(f.dcel.Faces) < 500 {
		t.Error("too few", len(f.dcel.Faces))
	}
}

// TestFacesInAnyOrder asks of the same segments in another order: nothing changes.
func TestFacesInAnyOrder(t *testing.T) {
	for _, segs := range rightSegs() {
		turned := slices.Clone(segs)
		slices.Reverse(turned)
		d, _ := impl.DcelOf(segs)
		other, _ := impl.DcelOf(turned)
		pieces, _ := impl.PiecesOf(segs)
		otherPieces, _ := impl.PiecesOf(turned)
		if !sameDcel(d, other) || !slices.Equal(pieces, otherPieces) || countsOf(segs) != countsOf(turned) {
			t.Error(segs)
		}
	}
}

// TestFacesTurned turns the segments a quarter round: faces keep their areas and holes, under other numbers.
func TestFacesTurned(t *testing.T) {
	d := dice(113)
	inOrder := func(rows [][]string) [][]string {
		for _, row := range rows {
			slices.Sort(row[1:])
		}
		slices.SortFunc(rows, slices.Compare[[]string])
		return rows
	}
	for i := range 40 {
		segs := d.crumbs(3 + int64(i%4))
		var turned []impl.Seg
		for _, s := range segs {
			q, _ := impl.SegOf(spot(-s.A.Y, s.A.X), spot(-s.B.Y, s.B.X))
			turned = append(turned, q)
		}
		was, is := inOrder(areasOf(segs)), inOrder(areasOf(turned))
		if countsOf(segs) != countsOf(turned) || !slices.EqualFunc(was, is, slices.Equal[[]string]) {
			t.Error(segs, was, is)
		}
	}
}

func TestFacesOfWrongOnes(t *testing.T) {
	refused := func(what string, segs []impl.Seg, h int64) {
		if got, ok := impl.CycleOf(segs, h); ok || len(got) != 0 {
			t.Error("cycle", what, h, got, ok)
		}
		if got, ok := impl.CycleArea2(segs, h); ok || got != (impl.Ratio{}) {
			t.Error("area", what, h, got, ok)
		}
		if got := impl.FaceOf(segs, h); got != -1 {
			t.Error("face", what, h, got)
		}
	}
	for _, wrong := range wrongRows() {
		if got, ok := impl.DcelOf(wrong); ok || !sameDcel(got, impl.Dcel{}) {
			t.Error("halves", wrong, got, ok)
		}
		if got, ok := impl.PiecesOf(wrong); ok || len(got) != 0 {
			t.Error("pieces", wrong, got, ok)
		}
		if got := countsOf(wrong); got != [5]int64{} {
			t.Error("counts", wrong, got)
		}
		for _, h := range []int64{-1, 0, 1, 2, 39, 40} {
			refused("wrong segments", wrong, h)
		}
	}
	for _, segs := range ourSegs() {
		for _, h := range []int64{math.MinInt64, -1 << 32, -2, -1, 1 << 32, 1<<32 + 1, math.MaxInt64} {
			refused("far out", segs, h)
		}
		d, _ := impl.DcelOf(segs)
		n := int64(len(d.Halves))
		refused("the next one", segs, n)
		if n > 0 && impl.FaceOf(segs, n-1) != d.Halves[n-1].Face {
			t.Error("the last one", segs)
		}
	}
}

func copyDcel(d impl.Dcel) impl.Dcel {
	out := impl.Dcel{Halves: slices.Clone(d.Halves)}
	for _, face := range d.Faces {
		out.Faces = append(out.Faces, impl.Face{Outer: face.Outer, Holes: slices.Clone(face.Holes)})
	}
	return out
}

// scribbleFaces writes over one list of Holes, and the room behind it, after the other, and looks whether another one changes.
func scribbleFaces(t *testing.T, d impl.Dcel) {
	t.Helper()
	kept := copyDcel(d)
	for i, face := range d.Faces {
		scribble(face.Holes)
		if len(d.Faces) < 100 && !slices.EqualFunc(d.Faces[i+1:], kept.Faces[i+1:], sameFace) {
			t.Fatal("two lists share", kept)
		}
	}
	scribble(d.Faces)
	if !slices.Equal(d.Halves, kept.Halves) {
		t.Fatal("two lists share", kept)
	}
	scribble(d.Halves)
}

func TestFacesLeaveMemoryAlone(t *testing.T) {
	d := dice(127)
	for _, segs := range slices.Concat(ourSegs(), wrongRows(), [][]impl.Seg{squares(5, 3), d.crumbs(5), d.crumbs(8)}) {
		ours, row := roomySegs(segs)
		was := slices.Clone(row)
		for range 2 {
			halves, ok := impl.DcelOf(ours)
			wanted, wantedOk := impl.DcelOf(segs)
			round, _ := impl.CycleOf(ours, 1)
			wantedRound, _ := impl.CycleOf(segs, 1)
			pieces, _ := impl.PiecesOf(ours)
			wantedPieces, _ := impl.PiecesOf(segs)
			area, _ := impl.CycleArea2(ours, 1)
			wantedArea, _ := impl.CycleArea2(segs, 1)
			if ok != wantedOk || !sameDcel(halves, wanted) || !slices.Equal(round, wantedRound) || !slices.Equal(pieces, wantedPieces) || area != wantedArea {
				t.Error("another answer", segs)
			}
			if impl.FaceOf(ours, 1) != impl.FaceOf(segs, 1) || countsOf(ours) != countsOf(segs) {
				t.Error("another face", segs)
			}
			scribbleFaces(t, halves)
			scribble(round)
			scribble(pieces)
			if !slices.Equal(row, was) {
				t.Fatal("written into", segs)
			}
		}
	}
}
