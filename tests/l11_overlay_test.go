package tests

import (
	"cmp"
	"math"
	"math/big"
	"runtime"
	"slices"
	"testing"

	"loop.example/g00225/impl"
)

func sameLoop(a, b impl.Loop) bool { return slices.Equal(a.Points, b.Points) }

func sameLoops(a, b []impl.Loop) bool { return slices.EqualFunc(a, b, sameLoop) }

func sameLabels(a, b impl.Labels) bool {
	return slices.Equal(a.InA, b.InA) && slices.Equal(a.InB, b.InB)
}

func vertex(n int64) impl.Cell { return impl.Cell{Kind: impl.CkVertex, Id: n} }

func edgeCell(n int64) impl.Cell { return impl.Cell{Kind: impl.CkEdge, Id: n} }

func faceCell(n int64) impl.Cell { return impl.Cell{Kind: impl.CkFace, Id: n} }

// loop is of whole points.
func loop(n ...int64) impl.Loop {
	var out impl.Loop
	for i := 0; i+1 < len(n); i += 2 {
		out.Points = append(out.Points, point(n[i], n[i+1], 1))
	}
	return out
}

func (p place) plus(way place, times *big.Rat) place {
	return place{ratPlus(p.x, ratTimes(way.x, times)), ratPlus(p.y, ratTimes(way.y, times))}
}

func (p place) minus(q place) place { return place{ratLess(p.x, q.x), ratLess(p.y, q.y)} }

func (p place) cross(q place) *big.Rat { return ratLess(ratTimes(p.x, q.y), ratTimes(p.y, q.x)) }

func (p place) dot(q place) *big.Rat { return ratPlus(ratTimes(p.x, q.x), ratTimes(p.y, q.y)) }

func halfWay(p, q place) place { return p.plus(q.minus(p), big.NewRat(1, 2)) }

// aheadOf are how far one goes from a place, each step one way, to what one meets of the line from u to v.
func aheadOf(from, way, u, v place) []*big.Rat {
	line, off := v.minus(u), u.minus(from)
	turn := way.cross(line)
	if turn.Sign() == 0 {
		if off.cross(way).Sign() != 0 {
			return nil
		}
		size := way.dot(way)
		return []*big.Rat{new(big.Rat).Quo(off.dot(way), size), new(big.Rat).Quo(v.minus(from).dot(way), size)}
	}
	at := new(big.Rat).Quo(off.cross(way), turn)
	if at.Sign() < 0 || at.Cmp(big.NewRat(1, 1)) > 0 {
		return nil
	}
	return []*big.Rat{new(big.Rat).Quo(off.cross(line), turn)}
}

// within is a place in the face to the left of a half, square off from its middle, half as far as one can go.
func (f *faces) within(h int64) place {
	a, b := placeOf(f.plan.Points[f.dcel.Halves[h].From]), placeOf(f.plan.Points[f.dcel.Halves[h].To])
	from, along := halfWay(a, b), b.minus(a)
	way := place{new(big.Rat).Neg(along.y), along.x}
	far := big.NewRat(1, 1)
	for e, edge := range f.plan.Edges {
		if int64(e) == h/2 {
			continue
		}
		for _, at := range aheadOf(from, way, placeOf(f.plan.Points[edge.From]), placeOf(f.plan.Points[edge.To])) {
			if at.Sign() > 0 && at.Cmp(far) < 0 {
				far = at
			}
		}
	}
	return from.plus(way, ratTimes(far, big.NewRat(1, 2)))
}

// cellWanted is that of the least outer cycle that goes round the place, if it is on no edge.
func (f *faces) cellWanted(at place) impl.Cell {
	for v, p := range f.plan.Points {
		if placeOf(p).order(at) == 0 {
			return vertex(int64(v))
		}
	}
	for e, edge := range f.plan.Edges {
		if placeOf(f.plan.Points[edge.From]).between(placeOf(f.plan.Points[edge.To]), at) {
			return edgeCell(int64(e))
		}
	}
	found := -1
	for c, round := range f.cycles {
		if f.areas[c].Sign() > 0 && f.goesRound(round, at) && (found < 0 || f.areas[c].Cmp(f.areas[found]) < 0) {
			found = c
		}
	}
	if found < 0 {
		return faceCell(0)
	}
	return faceCell(f.dcel.Halves[f.cycles[found][0]].Face)
}

// laid are two right layers over one another, with what chapter 11 tells of them, worked out by the places in each cell.
type laid struct {
	*faces
	a, b   []impl.Ring
	segs   []impl.Seg
	cells  []impl.Cell
	places []place
	labels impl.Labels
}

func overlaidWanted(a, b []impl.Ring) []impl.Seg {
	var out []impl.Seg
	for _, l := range [][]impl.Ring{a, b} {
		sides := sidesOf(l)
		slices.SortFunc(sides, func(s, q impl.Seg) int {
			return cmp.Or(cmp.Compare(s.A.X, q.A.X), cmp.Compare(s.A.Y, q.A.Y), cmp.Compare(s.B.X, q.B.X), cmp.Compare(s.B.Y, q.B.Y))
		})
		out = append(out, sides...)
	}
	return out
}

func (l *laid) put(c impl.Cell, at place) {
	l.cells, l.places = append(l.cells, c), append(l.places, at)
}

func layOver(a, b []impl.Ring) *laid {
	l := &laid{a: a, b: b, segs: overlaidWanted(a, b)}
	l.faces = facesWanted(l.segs)
	for v, p := range l.plan.Points {
		l.put(vertex(int64(v)), placeOf(p))
	}
	for e, edge := range l.plan.Edges {
		l.put(edgeCell(int64(e)), halfWay(placeOf(l.plan.Points[edge.From]), placeOf(l.plan.Points[edge.To])))
	}
	for i, face := range l.dcel.Faces {
		at := place{new(big.Rat), new(big.Rat)}
		if halves := append([]int64{face.Outer}, face.Holes...); halves[len(halves)-1] >= 0 {
			at = l.within(halves[len(halves)-1])
		}
		l.put(faceCell(int64(i)), at)
		l.labels.InA = append(l.labels.InA, layerSideAt(a, at) == impl.SdIn)
		l.labels.InB = append(l.labels.InB, layerSideAt(b, at) == impl.SdIn)
	}
	return l
}

func (l *laid) taken(op int64) []bool {
	var out []bool
	for i, inA := range l.labels.InA {
		inB := l.labels.InB[i]
		out = append(out, map[int64]bool{impl.OpOr: inA || inB, impl.OpAnd: inA && inB, impl.OpLess: inA && !inB, impl.OpXor: inA != inB}[op])
	}
	return out
}

func (l *laid) isBorder(h int64, taken []bool) bool {
	return taken[l.dcel.Halves[h].Face] && !taken[l.dcel.Halves[h^1].Face]
}

// loopsWanted goes round each point by what leaves it, from the half that comes in back to the last border ahead of it.
func (l *laid) loopsWanted(taken []bool) []impl.Loop {
	var out []impl.Loop
	gone := map[int64]int{}
	for h := range int64(len(l.dcel.Halves)) {
		if !l.isBorder(h, taken) || gone[h] > 0 {
			continue
		}
		var round impl.Loop
		for g := h; gone[g] == 0; {
			gone[g]++
			round.Points = append(round.Points, l.plan.Points[l.dcel.Halves[g].From])
			around := aroundWanted(l.plan, l.dcel.Halves[g].To)
			at := slices.Index(around, g^1)
			turned := slices.Concat(around[at:], around[:at])
			slices.Reverse(turned)
			g = turned[slices.IndexFunc(turned, func(k int64) bool { return l.isBorder(k, taken) })]
		}
		out = append(out, round)
	}
	return out
}

func pointsOf(l []impl.Loop) int {
	n := 0
	for _, round := range l {
		n += len(round.Points)
	}
	return n
}

func loopsOkWanted(l []impl.Loop) bool {
	ok := len(l) <= 40 && pointsOf(l) <= 200
	for _, round := range l {
		ok = ok && len(round.Points) >= 3
		for _, p := range round.Points {
			ok = ok && impl.PointOk(p)
		}
	}
	return ok
}

// loopsSideWanted counts the lines on a level way to the right.
func loopsSideWanted(l []impl.Loop, at place) int64 {
	odd := false
	for _, round := range l {
		for i, p := range round.Points {
			a, b := placeOf(p), placeOf(round.Points[(i+1)%len(round.Points)])
			if a.between(b, at) {
				return impl.SdOn
			}
			if b.y.Cmp(a.y) < 0 {
				a, b = b, a
			}
			if a.y.Cmp(at.y) <= 0 && at.y.Cmp(b.y) < 0 && a.turn(b, at) > 0 {
				odd = !odd
			}
		}
	}
	if odd {
		return impl.SdIn
	}
	return impl.SdOut
}

// loopsAreaOf adds up what lies below each line, or above it.
func loopsAreaOf(l []impl.Loop) *big.Rat {
	sum := new(big.Rat)
	for _, round := range l {
		for i, p := range round.Points {
			a, b := placeOf(p), placeOf(round.Points[(i+1)%len(round.Points)])
			sum.Add(sum, ratTimes(ratLess(a.x, b.x), ratPlus(a.y, b.y)))
		}
	}
	return sum
}

func loopsAreaWanted(l []impl.Loop) (impl.Ratio, bool) {
	if !loopsOkWanted(l) || slices.ContainsFunc(l, func(round impl.Loop) bool { return len(round.Points) > 60 }) {
		return impl.Ratio{}, false
	}
	return ratioFrom(loopsAreaOf(l))
}

// takenArea is that of the faces that are taken, by their cycles.
func (l *laid) takenArea(taken []bool) *big.Rat {
	sum := new(big.Rat)
	for c, round := range l.cycles {
		if taken[l.dcel.Halves[round[0]].Face] {
			sum.Add(sum, l.areas[c])
		}
	}
	return sum
}

// checkCells asks for some of the cells, what they lie in, and what cells their places are in.
func (l *laid) checkCells(t *testing.T, some int) {
	t.Helper()
	for _, i := range pickedOf(len(l.cells), some) {
		c, at := l.cells[i], l.places[i]
		if want := l.cellWanted(at); want != c {
			t.Fatal("the places are wrong", l.a, l.b, c, want, at)
		}
		x, y, ok := impl.CellSides(l.a, l.b, c)
		if !ok || x != layerSideAt(l.a, at) || y != layerSideAt(l.b, at) {
			t.Fatal("sides", l.a, l.b, c, x, y, ok)
		}
		if p, told := pointAt(at); told {
			if got := impl.CellAt(l.segs, p); got != c {
				t.Fatal("cell", l.a, l.b, c, got, p)
			}
		}
	}
}

// checkLoops asks of loops what some places lie in, and what they go round.
func (l *laid) checkLoops(t *testing.T, loops []impl.Loop, taken []bool, some int) {
	t.Helper()
	if impl.LoopsOk(loops) != loopsOkWanted(loops) {
		t.Fatal("right loops", l.a, l.b, loops)
	}
	area, told := impl.LoopsArea2(loops)
	if want, wantTold := loopsAreaWanted(loops); told != wantTold || area != want || loopsAreaOf(loops).Cmp(l.takenArea(taken)) != 0 {
		t.Fatal("area", l.a, l.b, loops, area, told)
	}
	for _, i := range pickedOf(len(l.cells), some) {
		p, told := pointAt(l.places[i])
		if !told {
			continue
		}
		want := loopsSideWanted(loops, l.places[i])
		if c := l.cells[i]; c.Kind == impl.CkFace && (want == impl.SdIn) != taken[c.Id] || c.Kind == impl.CkFace && want == impl.SdOn {
			t.Fatal("what is taken does not lie in the loops", l.a, l.b, loops, c, want)
		}
		if !loopsOkWanted(loops) {
			want = impl.SdNone
		}
		if got := impl.LoopsSide(loops, p); got != want {
			t.Fatal("side", l.a, l.b, loops, p, got, want)
		}
	}
}

func opsAll() []int64 { return []int64{impl.OpOr, impl.OpAnd, impl.OpLess, impl.OpXor} }

// checkOverlay asks of two right layers all that chapter 11 tells of them, of some cells.
func checkOverlay(t *testing.T, a, b []impl.Ring, some int) *laid {
	t.Helper()
	l := layOver(a, b)
	if got, ok := impl.Overlaid(a, b); !ok || !slices.Equal(got, l.segs) {
		t.Fatal("sides", a, b, got, ok)
	}
	if got, ok := impl.LabelsOf(a, b); !ok || !sameLabels(got, l.labels) {
		t.Fatal("labels", a, b, got, ok, l.labels)
	}
	l.checkCells(t, some)
	for _, op := range opsAll() {
		taken := l.taken(op)
		var want []int64
		for i, is := range taken {
			if is {
				want = append(want, int64(i))
			}
		}
		if got, ok := impl.Chosen(a, b, op); !ok || !slices.Equal(got, want) {
			t.Fatal("chosen", a, b, op, got, ok, want)
		}
		loops, ok := impl.Combine(a, b, op)
		if want := l.loopsWanted(taken); !ok || !sameLoops(loops, want) {
			t.Fatal("loops", a, b, op, loops, ok, want)
		}
		l.checkLoops(t, loops, taken, some)
	}
	return l
}

// comesBack tells whether a loop has a point twice.
func comesBack(round impl.Loop) bool {
	seen := map[impl.Point]int{}
	for _, p := range round.Points {
		seen[p]++
	}
	return len(seen) < len(round.Points)
}

// goesStraight tells whether a loop has a point between two others on one line.
func goesStraight(round impl.Loop) bool {
	n := len(round.Points)
	for i, p := range round.Points {
		last, next := placeOf(round.Points[(i+n-1)%n]), placeOf(round.Points[(i+1)%n])
		if last.between(next, placeOf(p)) {
			return true
		}
	}
	return false
}

// countCells notes what kinds of cells there are.
func (l *laid) countCells(seen map[string]int) {
	shared := map[int64]int{}
	for e, edge := range l.plan.Edges {
		if len(edge.Segs) > 1 {
			seen["edge of both"]++
			shared[edge.From]++
			shared[edge.To]++
		} else if edge.Segs[0] < int64(spotsOf(l.a)) && l.labels.InB[l.dcel.Halves[2*e].Face] {
			seen["edge within the other"]++
		}
	}
	for i, c := range l.cells {
		x, y := layerSideAt(l.a, l.places[i]), layerSideAt(l.b, l.places[i])
		if c.Kind == impl.CkVertex && x == impl.SdOn && y == impl.SdOn && shared[c.Id] == 0 {
			seen["point of both"]++
		}
		if c.Kind == impl.CkVertex && max(x, y) == impl.SdIn {
			seen["point within the other"]++
		}
		if _, told := pointAt(l.places[i]); !told {
			seen["place that is no point"]++
		}
	}
}

// countLoops notes what kinds of loops there are.
func (l *laid) countLoops(seen map[string]int) {
	for _, op := range opsAll() {
		loops := l.loopsWanted(l.taken(op))
		for _, round := range loops {
			if comesBack(round) {
				seen["loop that comes back"]++
			}
			if goesStraight(round) {
				seen["loop that goes straight"]++
			}
			if loopsAreaOf([]impl.Loop{round}).Sign() < 0 {
				seen["loop round a hole"]++
			}
		}
		if _, told := loopsAreaWanted(loops); !told && loopsOkWanted(loops) {
			seen["area not told"]++
		} else if told && !loopsAreaOf(loops).IsInt() {
			seen["broken area"]++
		}
	}
}

// rightLayer throws rings and leaves out those that do harm.
func (d *dice) rightLayer(n int, size int64) []impl.Ring {
	var out []impl.Ring
	for _, r := range d.layer(n, size) {
		if more := append(slices.Clone(out), r); isRightLayer(more) {
			out = more
		}
	}
	return out
}

func movedLayer(l []impl.Ring, by impl.Spot, times int64) []impl.Ring {
	var out []impl.Ring
	for _, r := range l {
		out = append(out, moved(r, by, times))
	}
	return out
}

// strips are n upright or level ones, that stand out over all that cross them.
func strips(n int64, level bool) []impl.Ring {
	var out []impl.Ring
	for i := range n {
		low, high := 3*i, 3*i+1
		if level {
			out = append(out, ring(-2, low, 20, low, 20, high, -2, high))
		} else {
			out = append(out, ring(low, -2, high, -2, high, 20, low, 20))
		}
	}
	return out
}

type layerPair struct{ a, b []impl.Ring }

// ourPairs are layers that have sides, corners and rings in common or in one another.
func ourPairs() []layerPair {
	four := layer(square(0, 0, 4))
	nest := layer(square(0, 0, 20), square(2, 2, 16), square(6, 6, 8))
	between := layer(square(1, 1, 18), square(4, 4, 12), square(8, 8, 4))
	out := []layerPair{
		{nil, nil}, {[]impl.Ring{}, nil}, {four, nil}, {nil, four}, {nest, []impl.Ring{}}, {nil, nest}, {four, four}, {four, layer(from(turnedWanted(four[0]), 2))}, {four, movedLayer(four, spot(9, 0), 1)},
		// Beside it along a side, along part of one, at a corner, by a corner on a side; within it in the same ways.
		{four, layer(square(4, 0, 4))}, {four, layer(square(4, 1, 2))}, {four, layer(square(4, 2, 4))}, {four, layer(square(4, 4, 4))}, {four, layer(ring(4, 2, 6, 1, 6, 3))},
		{four, layer(square(0, 0, 2))}, {four, layer(square(0, 1, 2))}, {four, layer(square(1, 1, 2))}, {four, layer(ring(0, 2, 2, 1, 2, 3))}, {four, layer(ring(0, 0, 3, 1, 1, 3))}, {four, layer(ring(0, 2, 2, 0, 4, 2, 2, 4))},
		{four, layer(ring(0, 0, 2, 0, 4, 0, 4, 4, 0, 4, 0, 1))}, {four, layer(ring(0, 0, 4, 0, 0, 4))}, {four, layer(ring(-1, 2, 2, -1, 5, 2, 2, 5))}, {four, layer(ring(0, 0, 4, 0, 4, 4, 2, 1, 0, 4))},
		// Holes that touch one another, each from another layer; rings in rings of both.
		{layer(square(0, 0, 9), ring(2, 2, 4, 4, 2, 6)), layer(ring(4, 4, 6, 2, 6, 6))}, {layer(square(0, 0, 9), square(2, 2, 2), square(6, 6, 2)), layer(square(4, 4, 2), square(4, 2, 1), square(2, 4, 1))},
		{nest, nest}, {nest, between}, {nest, layer(nest[1], nest[0])}, {nest, layer(nest[1])}, {nest, layer(square(2, 2, 3), square(6, 6, 4))}, {nest, movedLayer(nest, spot(0, 2), 1)}, {nest, movedLayer(nest, spot(1, 3), 1)},
		{strips(2, false), strips(2, true)}, {strips(3, false), strips(2, true)}, {strips(4, false), strips(4, true)}, {threes(6), threes(6)}, {threes(6), strips(4, true)},
		{layer(bow(12)), layer(turnedWanted(bow(12)))}, {layer(bow(12), moved(bow(8), spot(500, 0), 1)), layer(moved(bow(12), spot(1, 0), 1), moved(bow(8), spot(501, 1), 1))},
		{layer(square(-edge, -edge, 2*edge)), layer(ring(-edge, -edge, edge, edge, edge-1, edge))}, {layer(ring(-edge, -edge, edge, edge, edge-1, edge)), layer(ring(edge, -edge, -edge, edge, 1-edge, edge))},
	}
	return out
}

// thrownPairs are small enough to touch in all ways, or great enough to have areas that are not told.
func thrownPairs(n int) []layerPair {
	d := dice(131)
	var out []layerPair
	for i := range n {
		size := 2 + int64(i%5)
		a := d.rightLayer(1+i%4, size)
		out = append(out, layerPair{a, d.rightLayer(1+i%3, size)}, layerPair{a, movedLayer(a, d.spot(2), 1)}, layerPair{d.nest(size + 2), d.nest(size + 2)})
		out = append(out, layerPair{layer(square(-size, -size, 2*size)), d.rightLayer(5, size)})
		if i%4 == 0 {
			great := d.size() + 3
			out = append(out, layerPair{layer(d.ring(3+i%7, great)), layer(d.ring(3+i%6, great))}, layerPair{d.nest(edge), d.nest(edge)})
		}
	}
	return out
}

func TestOverlays(t *testing.T) {
	t.Parallel()
	seen := map[string]int{}
	for _, c := range ourPairs() {
		l := checkOverlay(t, c.a, c.b, 24)
		l.countCells(seen)
		l.countLoops(seen)
	}
	for _, c := range thrownPairs(60) {
		l := checkOverlay(t, c.a, c.b, 16)
		l.countCells(seen)
		l.countLoops(seen)
	}
	for _, kind := range []string{"edge of both", "point of both", "edge within the other", "point within the other", "loop that comes back", "loop that goes straight", "loop round a hole", "area not told", "broken area", "place that is no point"} {
		if seen[kind] < 30 {
			t.Error("too few of a kind", kind, seen)
		}
	}
}

func TestOurPairs(t *testing.T) {
	for i, c := range append(ourPairs(), thrownPairs(60)...) {
		if !isRightLayer(c.a) || !isRightLayer(c.b) {
			t.Error("not right", i, c)
		}
	}
}

func TestOverlayConstants(t *testing.T) {
	if impl.CkVertex != 1 || impl.CkEdge != 2 || impl.CkFace != 3 {
		t.Error("cells")
	}
	if !slices.Equal(opsAll(), []int64{1, 2, 3, 4}) {
		t.Error("operations")
	}
	if impl.MaxLoops != 40 || impl.MaxLoop != 200 {
		t.Error("limits")
	}
}

func TestCombinedOfOurOwn(t *testing.T) {
	four, nine := layer(square(0, 0, 4)), layer(square(0, 0, 9))
	a, b := layer(square(0, 0, 2)), layer(square(1, 1, 2))
	whole := []impl.Loop{loop(0, 4, 0, 0, 4, 0, 4, 4)}
	beside := layer(square(2, 0, 1))
	slit := layer(ring(0, 2, 2, 1, 2, 3))
	hole := loop(3, 3, 3, 6, 6, 6, 6, 3)
	third := impl.Loop{Points: []impl.Point{point(0, 1, 1), point(2, 2, 3), point(1, 1, 1)}}
	for i, c := range []struct {
		a, b []impl.Ring
		op   int64
		want []impl.Loop
		area string
	}{
		{nil, nil, impl.OpOr, nil, "0"}, {nil, nil, impl.OpXor, nil, "0"}, {four, nil, impl.OpAnd, nil, "0"}, {nil, four, impl.OpLess, nil, "0"}, {nil, four, impl.OpAnd, nil, "0"},
		{four, nil, impl.OpOr, whole, "32"}, {nil, four, impl.OpOr, whole, "32"}, {four, nil, impl.OpLess, whole, "32"}, {four, nil, impl.OpXor, whole, "32"}, {nil, four, impl.OpXor, whole, "32"},
		{four, four, impl.OpOr, whole, "32"}, {four, four, impl.OpAnd, whole, "32"}, {four, four, impl.OpLess, nil, "0"}, {four, four, impl.OpXor, nil, "0"},
		{a, b, impl.OpAnd, []impl.Loop{loop(1, 2, 1, 1, 2, 1, 2, 2)}, "2"}, {b, a, impl.OpAnd, []impl.Loop{loop(1, 2, 1, 1, 2, 1, 2, 2)}, "2"},
		{a, b, impl.OpOr, []impl.Loop{loop(0, 2, 0, 0, 2, 0, 2, 1, 3, 1, 3, 3, 1, 3, 1, 2)}, "14"},
		{a, b, impl.OpLess, []impl.Loop{loop(0, 2, 0, 0, 2, 0, 2, 1, 1, 1, 1, 2)}, "6"}, {b, a, impl.OpLess, []impl.Loop{loop(1, 3, 1, 2, 2, 2, 2, 1, 3, 1, 3, 3)}, "6"},
		{a, b, impl.OpXor, []impl.Loop{loop(0, 2, 0, 0, 2, 0, 2, 1, 1, 1, 1, 2), loop(1, 3, 1, 2, 2, 2, 2, 1, 3, 1, 3, 3)}, "12"},
		// A hole is gone round with the clock; what fills it is a loop of its own; a hole that is filled is none.
		{nine, layer(square(3, 3, 3)), impl.OpLess, []impl.Loop{loop(0, 9, 0, 0, 9, 0, 9, 9), hole}, "144"}, {nine, layer(square(3, 3, 3)), impl.OpAnd, []impl.Loop{loop(3, 6, 3, 3, 6, 3, 6, 6)}, "18"},
		{layer(nine[0], square(3, 3, 3)), nil, impl.OpOr, []impl.Loop{loop(0, 9, 0, 0, 9, 0, 9, 9), hole}, "144"}, {layer(nine[0], square(3, 3, 3)), layer(square(3, 3, 3)), impl.OpOr, []impl.Loop{loop(0, 9, 0, 0, 9, 0, 9, 9)}, "162"},
		{layer(nine[0], square(3, 3, 3)), layer(square(4, 4, 1)), impl.OpOr, []impl.Loop{loop(0, 9, 0, 0, 9, 0, 9, 9), hole, loop(4, 5, 4, 4, 5, 4, 5, 5)}, "146"},
		// Along a side of both no border goes, but its ends stand between two others on one line.
		{a, beside, impl.OpOr, []impl.Loop{loop(0, 2, 0, 0, 2, 0, 3, 0, 3, 1, 2, 1, 2, 2)}, "10"}, {a, beside, impl.OpAnd, nil, "0"}, {a, beside, impl.OpLess, []impl.Loop{loop(0, 2, 0, 0, 2, 0, 2, 1, 2, 2)}, "8"},
		// Two that touch at a corner are two loops; one that a slit comes to from within has a point twice.
		{layer(square(0, 0, 1)), layer(square(1, 1, 1)), impl.OpOr, []impl.Loop{loop(0, 1, 0, 0, 1, 0, 1, 1), loop(1, 2, 1, 1, 2, 1, 2, 2)}, "4"},
		{four, slit, impl.OpLess, []impl.Loop{loop(0, 2, 0, 0, 4, 0, 4, 4, 0, 4, 0, 2, 2, 3, 2, 1)}, "28"}, {four, slit, impl.OpOr, []impl.Loop{loop(0, 2, 0, 0, 4, 0, 4, 4, 0, 4)}, "32"},
		// Two holes that touch are one loop, with a point twice.
		{layer(nine[0], ring(2, 2, 4, 4, 2, 6)), layer(ring(4, 4, 6, 2, 6, 6)), impl.OpLess, []impl.Loop{loop(0, 9, 0, 0, 9, 0, 9, 9), loop(2, 2, 2, 6, 4, 4, 6, 6, 6, 2, 4, 4)}, "146"},
		// A corner that is no whole point.
		{layer(ring(0, 1, 0, 0, 2, 2)), layer(ring(0, 1, 1, 0, 1, 1)), impl.OpAnd, []impl.Loop{{Points: []impl.Point{point(0, 1, 1), point(1, 1, 2), point(1, 1, 1)}}}, "1/2"},
		{layer(ring(0, 1, 1, 1, 2, 0)), layer(ring(0, 1, 1, 0, 1, 1)), impl.OpAnd, []impl.Loop{{Points: []impl.Point{point(0, 1, 1), point(2, 1, 2), point(1, 1, 1)}}}, "1/2"},
		{layer(ring(0, 1, 1, 1, 2, 0)), layer(ring(0, 0, 1, 1, 0, 2)), impl.OpAnd, []impl.Loop{third}, "1/3"},
	} {
		loops, ok := impl.Combine(c.a, c.b, c.op)
		area, told := impl.LoopsArea2(loops)
		if !ok || !sameLoops(loops, c.want) || !told || impl.RatioText(area) != c.area {
			t.Error(i, loops, ok, impl.RatioText(area), told)
		}
	}
}

func TestLabelsOfOurOwn(t *testing.T) {
	four := layer(square(0, 0, 4))
	nest := layer(square(0, 0, 20), square(2, 2, 16), square(6, 6, 8))
	between := layer(square(1, 1, 18), square(4, 4, 12), square(8, 8, 4))
	const o, x = false, true
	for i, c := range []struct {
		a, b     []impl.Ring
		inA, inB []bool
		taken    [4][]int64
	}{
		{nil, nil, []bool{o}, []bool{o}, [4][]int64{}}, {four, nil, []bool{o, x}, []bool{o, o}, [4][]int64{{1}, nil, {1}, {1}}}, {nil, four, []bool{o, o}, []bool{o, x}, [4][]int64{{1}, nil, nil, {1}}},
		{four, four, []bool{o, x}, []bool{o, x}, [4][]int64{{1}, {1}, nil, nil}},
		{four, layer(square(2, 2, 4)), []bool{o, x, x, o}, []bool{o, o, x, x}, [4][]int64{{1, 2, 3}, {2}, {1}, {1, 3}}},
		{layer(square(2, 2, 4)), four, []bool{o, o, x, x}, []bool{o, x, x, o}, [4][]int64{{1, 2, 3}, {2}, {3}, {1, 3}}},
		{four, layer(square(4, 0, 4)), []bool{o, x, o}, []bool{o, o, x}, [4][]int64{{1, 2}, nil, {1}, {1, 2}}}, {four, layer(square(1, 1, 2)), []bool{o, x, x}, []bool{o, o, x}, [4][]int64{{1, 2}, {2}, {1}, {1}}},
		{nest, between, []bool{o, x, x, o, o, x, x}, []bool{o, o, x, x, o, o, x}, [4][]int64{{1, 2, 3, 5, 6}, {2, 6}, {1, 5}, {1, 3, 5}}},
		{nest, layer(nest[0], nest[1]), []bool{o, x, o, x}, []bool{o, x, o, o}, [4][]int64{{1, 3}, {1}, {3}, {3}}}, {nest, layer(nest[1]), []bool{o, x, o, x}, []bool{o, o, x, x}, [4][]int64{{1, 2, 3}, {3}, {1}, {1, 2}}},
		// Faces that no layer has, though they are bounded.
		{layer(ring(0, 0, 6, 0, 6, 6, 5, 6, 5, 1, 0, 1)), layer(ring(0, 0, 1, 0, 1, 5, 6, 5, 6, 6, 0, 6)), []bool{o, x, o, x, o, x}, []bool{o, x, x, o, o, x}, [4][]int64{{1, 2, 3, 5}, {1, 5}, {3}, {2, 3}}},
	} {
		if got, ok := impl.LabelsOf(c.a, c.b); !ok || !sameLabels(got, impl.Labels{InA: c.inA, InB: c.inB}) {
			t.Error(i, got, ok)
		}
		for k, op := range opsAll() {
			if got, ok := impl.Chosen(c.a, c.b, op); !ok || !slices.Equal(got, c.taken[k]) {
				t.Error(i, op, got, ok)
			}
		}
	}
}

func TestCellSidesOfOurOwn(t *testing.T) {
	const in, on, out = impl.SdIn, impl.SdOn, impl.SdOut
	a, b := layer(square(0, 0, 4), square(1, 1, 2)), layer(square(4, 0, 4), ring(2, 0, 3, 0, 3, 1, 2, 1))
	for i, c := range []struct {
		p    impl.Point
		kind int64
		x, y int64
	}{
		// Sides and corners of a alone, of both, of b alone.
		{point(0, 0, 1), impl.CkVertex, on, out}, {point(0, 2, 1), impl.CkEdge, on, out}, {point(1, 1, 1), impl.CkVertex, on, out}, {point(1, 2, 1), impl.CkEdge, on, out},
		{point(4, 0, 1), impl.CkVertex, on, on}, {point(4, 2, 1), impl.CkEdge, on, on}, {point(4, 4, 1), impl.CkVertex, on, on}, {point(2, 0, 1), impl.CkVertex, on, on}, {point(5, 0, 2), impl.CkEdge, on, on},
		{point(8, 0, 1), impl.CkVertex, out, on}, {point(8, 1, 1), impl.CkEdge, out, on}, {point(6, 4, 1), impl.CkEdge, out, on}, {point(4, 1, 2), impl.CkEdge, in, on}, {point(2, 1, 1), impl.CkVertex, on, on}, {point(5, 2, 2), impl.CkEdge, on, on}, {point(3, 1, 1), impl.CkVertex, on, on},
		// Faces: between the squares of a, in its hole, in b alone, in both, far out.
		{point(1, 1, 2), impl.CkFace, in, out}, {point(2, 2, 1), impl.CkFace, out, out}, {point(6, 2, 1), impl.CkFace, out, in}, {point(5, 1, 2), impl.CkFace, in, in}, {point(-1, 0, 1), impl.CkFace, out, out}, {point(edge*edge, -edge*edge, 1), impl.CkFace, out, out},
	} {
		segs, _ := impl.Overlaid(a, b)
		cell := impl.CellAt(segs, c.p)
		x, y, ok := impl.CellSides(a, b, cell)
		if !ok || cell.Kind != c.kind || x != c.x || y != c.y {
			t.Error(i, c, cell, x, y, ok)
		}
		y, x, ok = impl.CellSides(b, a, cell)
		if !ok || x != c.x || y != c.y {
			t.Error("the other way round", i, c, cell, x, y, ok)
		}
	}
}

func TestCellsOfOurOwn(t *testing.T) {
	far, _ := wideOf(bigPart(-1))
	back, _ := wideOf(new(big.Int).Neg(bigPart(-1)))
	single := []impl.Seg{seg(0, 0, 4, 2)}
	cross := []impl.Seg{seg(0, 0, 4, 4), seg(0, 4, 4, 0), seg(0, 0, 0, 4)}
	boxed := slices.Concat(segsWanted(square(0, 0, 10)), segsWanted(square(2, 2, 3)), []impl.Seg{seg(3, 3, 4, 4), seg(7, 0, 7, 3)})
	for i, c := range []struct {
		segs []impl.Seg
		p    impl.Point
		want impl.Cell
	}{
		{nil, point(0, 0, 1), faceCell(0)}, {[]impl.Seg{}, impl.Point{X: far, Y: back, W: one}, faceCell(0)},
		{single, point(0, 0, 1), vertex(0)}, {single, point(4, 2, 1), vertex(1)}, {single, point(2, 1, 1), edgeCell(0)}, {single, point(4, 2, 3), edgeCell(0)}, {single, point(6, 3, 1), faceCell(0)}, {single, point(-2, -1, 1), faceCell(0)}, {single, point(2, 2, 1), faceCell(0)}, {single, point(2, 0, 1), faceCell(0)},
		{repeated(single[0], 40), point(4, 2, 3), edgeCell(0)}, {repeated(single[0], 40), point(4, 2, 1), vertex(1)},
		// Points: (0, 0), (0, 4), (2, 2), (4, 0), (4, 4); edges: 0 1, 0 2, 1 2, 2 3, 2 4.
		{cross, point(2, 2, 1), vertex(2)}, {cross, point(4, 0, 1), vertex(3)}, {cross, point(0, 1, 1), edgeCell(0)}, {cross, point(0, 7, 2), edgeCell(0)}, {cross, point(1, 1, 1), edgeCell(1)}, {cross, point(1, 3, 1), edgeCell(2)}, {cross, point(3, 1, 1), edgeCell(3)}, {cross, point(3, 3, 1), edgeCell(4)},
		{cross, point(1, 2, 1), faceCell(1)}, {cross, point(1, 4, 2), faceCell(1)}, {cross, point(3, 2, 1), faceCell(0)}, {cross, point(2, 3, 1), faceCell(0)}, {cross, point(2, 1, 1), faceCell(0)}, {cross, point(0, 5, 1), faceCell(0)}, {cross, point(0, -1, 1), faceCell(0)}, {cross, point(0, 1<<60, 1), faceCell(0)},
		// Straight over and under corners, loose ends and what stands upright.
		{boxed, point(2, 1, 1), faceCell(1)}, {boxed, point(2, 6, 1), faceCell(1)}, {boxed, point(5, 1, 1), faceCell(1)}, {boxed, point(5, 6, 1), faceCell(1)}, {boxed, point(7, 4, 1), faceCell(1)}, {boxed, point(7, 3, 1), vertex(9)}, {boxed, point(7, 1, 1), edgeCell(8)}, {boxed, point(7, -1, 1), faceCell(0)}, {boxed, point(7, 11, 1), faceCell(0)},
		{boxed, point(3, 4, 1), faceCell(2)}, {boxed, point(4, 3, 1), faceCell(2)}, {boxed, point(7, 7, 2), edgeCell(6)}, {boxed, point(3, 5, 2), faceCell(1)}, {boxed, point(0, -1, 1), faceCell(0)}, {boxed, point(0, 11, 1), faceCell(0)}, {boxed, point(10, 11, 1), faceCell(0)}, {boxed, point(10, -1, 1), faceCell(0)}, {boxed, point(-1, 5, 1), faceCell(0)}, {boxed, point(11, 5, 1), faceCell(0)},
		{boxed, impl.Point{X: far, Y: far, W: one}, faceCell(0)}, {boxed, impl.Point{X: back, Y: far, W: one}, faceCell(0)}, {boxed, impl.Point{X: one, Y: one, W: far}, faceCell(1)}, {boxed, impl.Point{X: impl.WideOf(-1), Y: one, W: far}, faceCell(0)}, {boxed, impl.Point{X: zero, Y: one, W: far}, edgeCell(0)},
	} {
		if got := impl.CellAt(c.segs, c.p); got != c.want {
			t.Error(i, c, got)
		}
	}
}

// justBeside are places next to one on a line, as near as parts allow.
func (d *dice) justBeside(at place) []place {
	var out []place
	for range 3 {
		near := new(big.Rat).SetFrac(big.NewInt(1), power(uint(10+d.word()%26)))
		for _, way := range [][2]int64{{1, 0}, {-1, 0}, {0, 1}, {0, -1}, {1, 1}} {
			out = append(out, at.plus(place{big.NewRat(way[0], 1), big.NewRat(way[1], 1)}, near))
		}
	}
	return out
}

func TestCells(t *testing.T) {
	t.Parallel()
	seen := map[string]int{}
	d := dice(137)
	check := func(f *faces, segs []impl.Seg, p impl.Point) {
		want := f.cellWanted(placeOf(p))
		if got := impl.CellAt(segs, p); got != want {
			t.Fatal(segs, p, got, want)
		}
		seen[[]string{"", "vertex", "edge", "face"}[want.Kind]]++
		if want.Kind == impl.CkFace && want.Id > 0 {
			seen["face within"]++
		}
	}
	for i, segs := range slices.Concat(rightSegs(), [][]impl.Seg{squares(6, 2), squares(10, 1), d.crumbs(4), d.crumbs(6), d.shortSegs(30, 4), d.needle()}) {
		if len(segs) > 24 && i%4 > 0 || countsOf(segs)[1] > 150 {
			continue
		}
		f := facesWanted(segs)
		points := pointsNear(segs)
		for _, k := range pickedOf(len(points), 25) {
			check(f, segs, points[k])
		}
		for _, e := range pickedOf(len(f.plan.Edges), 3) {
			edge := f.plan.Edges[e]
			for _, at := range d.justBeside(halfWay(placeOf(f.plan.Points[edge.From]), placeOf(f.plan.Points[edge.To]))) {
				if p, told := pointAt(at); told {
					check(f, segs, p)
					seen["just beside"]++
				}
			}
		}
		for _, face := range f.dcel.Faces[1:] {
			if p, told := pointAt(f.within(face.Outer)); told && len(f.dcel.Faces) < 20 {
				check(f, segs, p)
			}
		}
		check(f, segs, d.point())
	}
	for _, kind := range []string{"vertex", "edge", "face", "face within", "just beside"} {
		if seen[kind] < 200 {
			t.Error("too few of a kind", kind, seen)
		}
	}
}

// TestCellsOfSmallLattices asks for the cells of whole and half points all over and round a lattice.
func TestCellsOfSmallLattices(t *testing.T) {
	d := dice(139)
	for i := range 60 {
		size := 1 + int64(i%3)
		segs := d.segs(2+i%8, size)
		f := facesWanted(segs)
		for x := -2*size - 1; x <= 2*size+1; x++ {
			for y := -2*size - 1; y <= 2*size+1; y++ {
				p, _ := impl.PointMake(impl.WideOf(x), impl.WideOf(y), impl.WideOf(2))
				if got, want := impl.CellAt(segs, p), f.cellWanted(placeOf(p)); got != want {
					t.Fatal(segs, p, got, want)
				}
			}
		}
	}
}

// TestStrips has as many loops as may be, and more, and a loop of as many points as an area is told of, and more.
func TestStrips(t *testing.T) {
	t.Parallel()
	upright, level := strips(4, false), strips(4, true)
	double := movedLayer(level, spot(0, 0), 2)
	double[0].Spots = slices.Insert(double[0].Spots, 2, spot(40, 1))
	for i, c := range []struct {
		a, b   []impl.Ring
		op     int64
		loops  int
		points int
		most   int
		area   string
	}{
		{upright, level, impl.OpAnd, 16, 64, 4, "32"}, {upright, level, impl.OpOr, 10, 96, 60, "320"}, {upright, level, impl.OpLess, 20, 80, 4, "144"}, {upright, level, impl.OpXor, 40, 160, 4, "288"},
		{strips(5, false), strips(5, true), impl.OpAnd, 25, 100, 4, "50"}, {strips(5, false), strips(5, true), impl.OpOr, 17, 140, 76, ""}, {strips(5, false), strips(5, true), impl.OpLess, 30, 120, 4, "170"}, {strips(5, false), strips(5, true), impl.OpXor, 60, 240, 4, ""},
		{upright, strips(5, true), impl.OpXor, 49, 196, 4, ""}, {movedLayer(upright, spot(0, 0), 2), double, impl.OpOr, 10, 97, 61, ""},
	} {
		loops, ok := impl.Combine(c.a, c.b, c.op)
		most := 0
		for _, round := range loops {
			most = max(most, len(round.Points))
		}
		if !ok || len(loops) != c.loops || pointsOf(loops) != c.points || most != c.most {
			t.Error(i, len(loops), pointsOf(loops), most)
		}
		if area, told := impl.LoopsArea2(loops); told != (c.area != "") || impl.RatioText(area) != c.area || !told && area != (impl.Ratio{}) {
			t.Error(i, area, told)
		}
		checkOverlay(t, c.a, c.b, 3)
	}
}

// wave is a loop of n points that turns left all the way.
func wave(n int64) impl.Loop {
	var out impl.Loop
	for _, s := range bow(n).Spots {
		out.Points = append(out.Points, impl.PointOf(s))
	}
	return out
}

func TestRightLoops(t *testing.T) {
	var many []impl.Loop
	for i := range int64(40) {
		many = append(many, loop(i, 0, i+1, 0, i, 1))
	}
	inAll := []impl.Loop{wave(60), wave(60), wave(60), wave(20)}
	for i, c := range []struct {
		l    []impl.Loop
		ok   bool
		told bool
	}{
		{nil, true, true}, {[]impl.Loop{}, true, true}, {many[:1], true, true}, {many, true, true}, {append(slices.Clone(many), many[0]), false, false}, {make([]impl.Loop, 41), false, false},
		{[]impl.Loop{{}}, false, false}, {[]impl.Loop{loop(0, 0)}, false, false}, {[]impl.Loop{loop(0, 0, 1, 1)}, false, false}, {[]impl.Loop{loop(0, 0, 1, 1, 2, 0)}, true, true}, {[]impl.Loop{many[0], loop(0, 0, 1, 1)}, false, false}, {[]impl.Loop{{}, many[0]}, false, false},
		{inAll, true, true}, {append(slices.Clone(inAll[:3]), wave(21)), false, false}, {append(slices.Clone(inAll[:3]), wave(10), wave(10)), true, true}, {append(slices.Clone(inAll[:3]), wave(10), wave(11)), false, false},
		{[]impl.Loop{wave(200)}, true, false}, {[]impl.Loop{wave(201)}, false, false}, {[]impl.Loop{wave(60)}, true, true}, {[]impl.Loop{wave(61)}, true, false}, {[]impl.Loop{wave(3), wave(61), wave(3)}, true, false}, {[]impl.Loop{wave(3), wave(60), wave(3)}, true, true},
		// Whatever else they are: points all on one line, all one, one loop twice.
		{[]impl.Loop{loop(0, 0, 0, 0, 0, 0)}, true, true}, {[]impl.Loop{loop(0, 0, 5, 5, 2, 2)}, true, true}, {[]impl.Loop{many[0], many[0]}, true, true},
	} {
		if got := impl.LoopsOk(c.l); got != c.ok || got != loopsOkWanted(c.l) {
			t.Error(i, got)
		}
		area, told := impl.LoopsArea2(c.l)
		want, _ := loopsAreaWanted(c.l)
		if told != c.told || area != want {
			t.Error(i, area, told, want)
		}
		for _, p := range []impl.Point{point(0, 0, 1), point(1, 3, 2), point(-5, 1, 3), point(1, 1<<40, 1)} {
			want := int64(impl.SdNone)
			if c.ok {
				want = loopsSideWanted(c.l, placeOf(p))
			}
			if got := impl.LoopsSide(c.l, p); got != want {
				t.Error(i, p, got, want)
			}
		}
	}
}

func TestLoopsOfOurOwn(t *testing.T) {
	const in, on, out = impl.SdIn, impl.SdOn, impl.SdOut
	type asked struct {
		x, y, w int64
		side    int64
	}
	tri := loop(0, 0, 4, 0, 0, 4)
	back := loop(0, 0, 0, 4, 4, 0)
	for i, c := range []struct {
		l    []impl.Loop
		area string
		at   []asked
	}{
		{nil, "0", []asked{{0, 0, 1, out}, {5, 1, 3, out}}},
		{[]impl.Loop{tri}, "16", []asked{{1, 1, 1, in}, {0, 0, 1, on}, {2, 2, 1, on}, {2, 0, 1, on}, {0, 1, 1, on}, {0, 5, 1, out}, {0, -1, 1, out}, {4, 1, 1, out}, {4, -1, 1, out}, {-1, 2, 1, out}, {5, 0, 1, out}, {-1, 0, 1, out}, {3, 3, 2, in}, {5, 4, 2, out}}},
		{[]impl.Loop{back}, "-16", []asked{{1, 1, 1, in}, {2, 2, 1, on}, {0, 5, 1, out}}},
		// Twice over it is crossed twice; there and back it has no area either.
		{[]impl.Loop{tri, tri}, "32", []asked{{1, 1, 1, out}, {2, 2, 1, on}, {9, 9, 1, out}}}, {[]impl.Loop{tri, back}, "0", []asked{{1, 1, 1, out}, {2, 2, 1, on}}}, {[]impl.Loop{tri, tri, back}, "16", []asked{{1, 1, 1, in}}},
		{[]impl.Loop{loop(0, 0, 4, 0, 0, 4, 0, 0, 4, 0, 0, 4)}, "32", []asked{{1, 1, 1, out}, {2, 2, 1, on}}},
		// Loops in loops, whichever way they go.
		{[]impl.Loop{loop(0, 0, 9, 0, 9, 9, 0, 9), loop(3, 3, 3, 6, 6, 6, 6, 3)}, "144", []asked{{1, 1, 1, in}, {4, 4, 1, out}, {3, 4, 1, on}, {3, 1, 1, in}, {3, 8, 1, in}, {6, 8, 1, in}, {6, 10, 1, out}}}, {[]impl.Loop{loop(3, 3, 6, 3, 6, 6, 3, 6), loop(0, 0, 9, 0, 9, 9, 0, 9), loop(4, 4, 5, 4, 5, 5)}, "181", []asked{{1, 1, 1, in}, {7, 7, 2, out}, {9, 9, 2, on}, {14, 13, 3, in}}},
		// A loop that crosses itself, one that touches itself, one with a point between two others, one that goes back over a line.
		{[]impl.Loop{loop(0, 0, 2, 2, 2, 0, 0, 2)}, "0", []asked{{1, 1, 1, on}, {1, 2, 2, in}, {3, 2, 2, in}, {2, 1, 2, out}, {2, 3, 2, out}}}, {[]impl.Loop{loop(0, 2, 0, 0, 4, 0, 4, 4, 0, 4, 0, 2, 2, 3, 2, 1)}, "28", []asked{{1, 2, 1, out}, {1, 1, 1, in}, {3, 2, 1, in}, {0, 2, 1, on}, {2, 2, 1, on}, {2, 7, 2, in}}},
		{[]impl.Loop{loop(0, 0, 1, 0, 2, 0, 2, 2, 0, 2)}, "8", []asked{{1, 0, 1, on}, {1, 1, 1, in}, {1, 3, 1, out}, {1, -1, 1, out}}}, {[]impl.Loop{loop(0, 0, 2, 0, 2, 2, 2, 5, 2, 2, 0, 2)}, "8", []asked{{2, 4, 1, on}, {2, 5, 1, on}, {2, 6, 1, out}, {1, 1, 1, in}, {3, 9, 2, out}, {3, 3, 1, out}}},
		{[]impl.Loop{loop(1, 1, 1, 1, 1, 1)}, "0", []asked{{1, 1, 1, on}, {1, 0, 1, out}, {1, 2, 1, out}, {0, 1, 1, out}}}, {[]impl.Loop{loop(0, 0, 4, 2, 2, 1)}, "0", []asked{{3, 3, 2, out}, {6, 3, 2, on}, {4, 2, 1, on}, {6, 3, 1, out}}}, {[]impl.Loop{loop(0, 0, 0, 4, 0, 2)}, "0", []asked{{0, 1, 1, on}, {0, -1, 1, out}, {0, 5, 1, out}}},
		// Areas that are no whole numbers.
		{[]impl.Loop{{Points: []impl.Point{point(0, 0, 1), point(1, 0, 2), point(0, 1, 3)}}}, "1/6", []asked{{1, 1, 6, in}, {3, 2, 12, on}, {1, 1, 2, out}}}, {[]impl.Loop{{Points: []impl.Point{point(0, 0, 1), point(1, 0, 2), point(0, 1, 3)}}, {Points: []impl.Point{point(1, 1, 1), point(4, 3, 3), point(1, 2, 1)}}}, "1/2", []asked{{7, 8, 6, in}, {1, 1, 6, in}}},
	} {
		if area, ok := impl.LoopsArea2(c.l); !ok || impl.RatioText(area) != c.area {
			t.Error(i, impl.RatioText(area), ok)
		}
		for _, a := range c.at {
			p, _ := impl.PointMake(impl.WideOf(a.x), impl.WideOf(a.y), impl.WideOf(a.w))
			if got := impl.LoopsSide(c.l, p); got != a.side || got != loopsSideWanted(c.l, placeOf(p)) {
				t.Error(i, a, got)
			}
		}
	}
}

// pointOver throws a right point whose W is of that many bits, near the middle, at times much nearer.
func (d *dice) pointOver(bits uint, nearer uint) impl.Point {
	for {
		w := new(big.Int).Rsh(new(big.Int).SetBit(new(big.Int).Rsh(new(big.Int).Abs(d.part()), 1), 79, 1), 80-bits)
		size := new(big.Int).Rsh(new(big.Int).Mul(w, big.NewInt(3)), nearer)
		x, y := new(big.Int).Mod(d.longPart(), size), new(big.Int).Mod(d.longPart(), size)
		if p, ok := pointFrom(x, y, w); ok {
			return p
		}
	}
}

// longPart has nearly always more than 120 bits.
func (d *dice) longPart() *big.Int {
	n := new(big.Int).SetUint64(d.word())
	return n.Lsh(n, 64).Or(n, new(big.Int).SetUint64(d.word()))
}

// thrownLoops are of points of a lattice, which stand twice and line up, of points of all parts, and of broken ones whose areas are just told or just not.
func thrownLoops() [][]impl.Loop {
	d := dice(149)
	var out [][]impl.Loop
	throw := func(loops int, points int, next func() impl.Point) []impl.Loop {
		var l []impl.Loop
		for range loops {
			var round impl.Loop
			for range 3 + d.word()%uint64(points) {
				round.Points = append(round.Points, next())
			}
			l = append(l, round)
		}
		return l
	}
	for i := range 216 {
		size := 1 + int64(i%4)
		out = append(out, throw(1+i%4, 6, func() impl.Point {
			s := d.spot(2 * size)
			p, _ := impl.PointMake(impl.WideOf(s.X), impl.WideOf(s.Y), impl.WideOf(2))
			return p
		}))
		out = append(out, throw(1+i%3, 4, d.point), throw(1+i%2, 3, func() impl.Point { return d.pointOver(uint(25+i%54), uint(i/2%2*(20+i%54)/2)) }))
	}
	return out
}

// backAndForth is a loop of great parts and the same one back, so that only what is added has no area that is told.
func backAndForth(l []impl.Loop) []impl.Loop {
	var out []impl.Loop
	for _, round := range l {
		turned := impl.Loop{Points: slices.Clone(round.Points)}
		slices.Reverse(turned.Points)
		out = append(out, round, turned)
	}
	return out
}

func TestLoops(t *testing.T) {
	seen := map[string]int{}
	d := dice(151)
	for _, l := range thrownLoops() {
		area, told := impl.LoopsArea2(l)
		want, wantTold := loopsAreaWanted(l)
		if told != wantTold || area != want {
			t.Fatal("area", l, area, told, want)
		}
		sum := loopsAreaOf(l)
		_, up := wideOf(sum.Num())
		_, down := wideOf(sum.Denom())
		for kind, is := range map[string]bool{"told": told && !sum.IsInt(), "told but for its up": !up && down, "told but for its down": up && !down, "not told": !up && !down, "below": sum.Sign() < 0} {
			if is {
				seen[kind]++
			}
		}
		if none, ok := impl.LoopsArea2(backAndForth(l)); !ok || none != ratio(0, 1) {
			t.Fatal("back and forth", l, none, ok)
		}
		points := []impl.Point{d.point(), d.pointOver(30, 0), point(1, 1, 2), point(0, 0, 1), point(1, 0, 1), point(-1, 1, 2)}
		for _, round := range l {
			middle, ok := impl.Middle(round.Points[0], round.Points[len(round.Points)-1])
			if ok {
				points = append(points, middle)
			}
			points = append(points, round.Points[1])
		}
		for _, p := range points {
			side := impl.LoopsSide(l, p)
			if want := loopsSideWanted(l, placeOf(p)); side != want {
				t.Fatal("side", l, p, side, want)
			}
			seen[map[int64]string{impl.SdIn: "in", impl.SdOn: "on", impl.SdOut: "out"}[side]]++
		}
	}
	for _, kind := range []string{"told", "not told", "told but for its up", "told but for its down", "below", "in", "on", "out"} {
		if seen[kind] < 10 {
			t.Error("too few of a kind", kind, seen)
		}
	}
}

// TestLoopsFromEachPointOn asks of loops that begin elsewhere, and stand in another order: nothing changes.
func TestLoopsFromEachPointOn(t *testing.T) {
	for i, l := range thrownLoops() {
		var other []impl.Loop
		for _, round := range l {
			k := (i + 1) % len(round.Points)
			other = append(other, impl.Loop{Points: slices.Concat(round.Points[k:], round.Points[:k])})
		}
		slices.Reverse(other)
		area, told := impl.LoopsArea2(l)
		otherArea, otherTold := impl.LoopsArea2(other)
		if area != otherArea || told != otherTold {
			t.Error("area", l, area, otherArea)
		}
		for _, p := range []impl.Point{point(1, 0, 1), point(0, 0, 1), point(1, -1, 2), point(3, 2, 4), l[0].Points[2]} {
			if impl.LoopsSide(l, p) != impl.LoopsSide(other, p) {
				t.Error("side", l, p)
			}
		}
	}
}

// TestGreatestLoops has 200 points of the greatest parts, in loops of 60 and less: all is told that comes out small.
func TestGreatestLoops(t *testing.T) {
	d := dice(157)
	var l []impl.Loop
	for _, n := range []int{60, 40} {
		var round impl.Loop
		for range n {
			round.Points = append(round.Points, d.pointOver(80, 0))
		}
		l = append(l, round)
	}
	if area, ok := impl.LoopsArea2(l); ok || area != (impl.Ratio{}) {
		t.Error(area, ok)
	}
	all := backAndForth(l)
	if area, ok := impl.LoopsArea2(all); !ok || area != ratio(0, 1) || pointsOf(all) != 200 {
		t.Error(area, ok)
	}
	// One point is taken away from what goes back: what is left is the triangle there.
	last := len(all[1].Points) - 1
	all[1].Points = all[1].Points[:last]
	want, told := loopsAreaWanted(all)
	if area, ok := impl.LoopsArea2(all); !ok || !told || area != want || area == ratio(0, 1) {
		t.Error(area, ok, want, told)
	}
	far, _ := wideOf(bigPart(-1))
	back, _ := wideOf(new(big.Int).Neg(bigPart(-1)))
	corners := []impl.Point{{X: back, Y: back, W: one}, {X: far, Y: back, W: one}, {X: far, Y: far, W: one}, {X: back, Y: far, W: one}}
	great := impl.Loop{Points: slices.Repeat(corners, 15)}
	size := new(big.Int).Mul(big.NewInt(2*50*4), new(big.Int).Mul(bigPart(-1), bigPart(-1)))
	most := []impl.Loop{great, great, great, {Points: slices.Repeat(corners, 5)}}
	wide, _ := wideOf(size)
	if area, ok := impl.LoopsArea2(most); !ok || area != (impl.Ratio{Up: wide, Down: one}) {
		t.Error(area, ok, size)
	}
	if impl.LoopsSide(most[:1], point(0, 0, 1)) != impl.SdIn || impl.LoopsSide(most[:2], point(0, 0, 1)) != impl.SdOut || impl.LoopsSide(most[:1], corners[2]) != impl.SdOn {
		t.Error("sides")
	}
}

// checkSame asks a cell's point what the layers have there, by their rings.
func checkSame(t *testing.T, a, b []impl.Ring, segs []impl.Seg, c impl.Cell, p impl.Point) {
	t.Helper()
	x, y, ok := impl.CellSides(a, b, c)
	if !ok || impl.CellAt(segs, p) != c || x != impl.LayerSide(a, p) || y != impl.LayerSide(b, p) {
		t.Fatal("cell", a, b, c, p, x, y, ok)
	}
}

// innerPoints are between corners of a face, as far as they are told, and lie in it or not.
func innerPoints(segs []impl.Seg, d impl.Dcel, plan impl.Plan, face int64) []impl.Point {
	round, _ := impl.CycleOf(segs, d.Faces[face].Outer)
	var out []impl.Point
	for i, h := range round {
		p, ok := impl.Middle(plan.Points[d.Halves[h].From], plan.Points[d.Halves[round[(i+1)%len(round)]].To])
		if ok {
			out = append(out, p)
		}
	}
	return out
}

// checkPromise11 leans on nothing but the answers. It tells how many faces had a point of their own.
func checkPromise11(t *testing.T, a, b []impl.Ring) int {
	t.Helper()
	segs, _ := impl.Overlaid(a, b)
	plan, _ := impl.PlanOf(segs)
	d, _ := impl.DcelOf(segs)
	for _, v := range pickedOf(len(plan.Points), 6) {
		checkSame(t, a, b, segs, vertex(v), plan.Points[v])
	}
	for _, e := range pickedOf(len(plan.Edges), 6) {
		if p, ok := impl.Middle(plan.Points[plan.Edges[e].From], plan.Points[plan.Edges[e].To]); ok {
			checkSame(t, a, b, segs, edgeCell(e), p)
		}
	}
	found := 0
	for i := range d.Faces {
		if i == 0 || i > 6 {
			continue
		}
		for _, p := range innerPoints(segs, d, plan, int64(i)) {
			c := impl.CellAt(segs, p)
			checkSame(t, a, b, segs, c, p)
			if c != faceCell(int64(i)) {
				continue
			}
			found++
			for _, op := range opsAll() {
				loops, _ := impl.Combine(a, b, op)
				faces, _ := impl.Chosen(a, b, op)
				side := int64(impl.SdOut)
				if slices.Contains(faces, int64(i)) {
					side = impl.SdIn
				}
				if impl.LoopsOk(loops) && impl.LoopsSide(loops, p) != side {
					t.Fatal("taken", a, b, op, p, side)
				}
			}
			break
		}
	}
	return found
}

// areasTold are those of the four operations, if all are told.
func areasTold(a, b []impl.Ring) ([4]impl.Ratio, bool) {
	var out [4]impl.Ratio
	all := true
	for i, op := range opsAll() {
		loops, _ := impl.Combine(a, b, op)
		area, ok := impl.LoopsArea2(loops)
		out[i], all = area, all && ok
	}
	return out, all
}

func TestPromise11(t *testing.T) {
	t.Parallel()
	found, told := 0, 0
	for _, c := range append(ourPairs(), thrownPairs(20)...) {
		found += checkPromise11(t, c.a, c.b)
		areas, all := areasTold(c.a, c.b)
		if !all {
			continue
		}
		told++
		either, and, less, xor := areas[0], areas[1], areas[2], areas[3]
		sum := func(p, q impl.Ratio) impl.Ratio {
			out, ok := impl.RatioAdd(p, q)
			if !ok {
				t.Fatal("not told", p, q)
			}
			return out
		}
		if sum(either, and) != ratio(impl.LayerArea2(c.a)+impl.LayerArea2(c.b), 1) || sum(less, and) != ratio(impl.LayerArea2(c.a), 1) || sum(xor, and) != either {
			t.Error("areas", c.a, c.b, areas)
		}
	}
	if found < 200 || told < 100 {
		t.Error("too few of a kind", found, told)
	}
}

func TestOverlaysTheOtherWayRound(t *testing.T) {
	differ := 0
	for _, c := range append(ourPairs(), thrownPairs(20)...) {
		was, _ := impl.LabelsOf(c.a, c.b)
		is, _ := impl.LabelsOf(c.b, c.a)
		if !sameLabels(was, impl.Labels{InA: is.InB, InB: is.InA}) {
			t.Error("labels", c.a, c.b)
		}
		for _, op := range opsAll() {
			was, _ := impl.Combine(c.a, c.b, op)
			is, ok := impl.Combine(c.b, c.a, op)
			same := sameLoops(was, is)
			if op != impl.OpLess && !same || !ok {
				t.Error("loops", c.a, c.b, op)
			}
			if !same {
				differ++
			}
		}
	}
	if differ < 50 {
		t.Error("too few of a kind", differ)
	}
}

// TestLayersWithThemselves lays a layer over itself, over its rings in another order, turned and from elsewhere on, and over none.
func TestLayersWithThemselves(t *testing.T) {
	for i, l := range rightLayers() {
		if i%3 > 0 && i > 20 {
			continue
		}
		var other []impl.Ring
		for _, r := range l {
			other = slices.Insert(other, 0, from(turnedWanted(r), i%3))
		}
		area := ratio(impl.LayerArea2(l), 1)
		alone, _ := impl.Combine(l, nil, impl.OpOr)
		for _, b := range [][]impl.Ring{l, other} {
			for _, op := range opsAll() {
				loops, ok := impl.Combine(l, b, op)
				got, told := impl.LoopsArea2(loops)
				want := []impl.Ratio{area, area, ratio(0, 1), ratio(0, 1)}[op-1]
				if !ok || !told || got != want || op <= impl.OpAnd && !sameLoops(loops, alone) || op > impl.OpAnd && len(loops) > 0 {
					t.Error(l, op, loops, got, told)
				}
			}
		}
	}
}

func TestOverlaysOfWrongOnes(t *testing.T) {
	four := layer(square(0, 0, 4))
	refused := func(what string, a, b []impl.Ring) {
		t.Helper()
		if got, ok := impl.Overlaid(a, b); ok || len(got) > 0 {
			t.Error("sides", what, got, ok)
		}
		if got, ok := impl.LabelsOf(a, b); ok || !sameLabels(got, impl.Labels{}) {
			t.Error("labels", what, got, ok)
		}
		for _, c := range []impl.Cell{{}, vertex(0), edgeCell(0), faceCell(0)} {
			if x, y, ok := impl.CellSides(a, b, c); ok || x != 0 || y != 0 {
				t.Error("cell", what, x, y, ok)
			}
		}
		for _, op := range []int64{0, 1, 2, 3, 4, 5} {
			if got, ok := impl.Chosen(a, b, op); ok || len(got) > 0 {
				t.Error("chosen", what, got, ok)
			}
			if got, ok := impl.Combine(a, b, op); ok || len(got) > 0 {
				t.Error("loops", what, got, ok)
			}
		}
	}
	for _, wrong := range wrongLayers() {
		refused("first", wrong, four)
		refused("second", four, wrong)
		refused("both", wrong, wrong)
		refused("beside none", wrong, nil)
		refused("behind none", nil, wrong)
	}
	for _, c := range ourPairs() {
		for _, op := range []int64{math.MinInt64, -1 << 32, -2, -1, 0, 5, 6, 1<<32 + 1, math.MaxInt64} {
			if got, ok := impl.Chosen(c.a, c.b, op); ok || len(got) > 0 {
				t.Error("chosen", op, got, ok)
			}
			if got, ok := impl.Combine(c.a, c.b, op); ok || len(got) > 0 {
				t.Error("loops", op, got, ok)
			}
		}
	}
}

// TestCellsThatThereAreNot asks for the last cell of each kind and the one behind it, and for kinds that are none.
func TestCellsThatThereAreNot(t *testing.T) {
	for _, c := range ourPairs() {
		segs, _ := impl.Overlaid(c.a, c.b)
		n := countsOf(segs)
		for kind := int64(-1); kind <= 5; kind++ {
			count := map[int64]int64{impl.CkVertex: n[0], impl.CkEdge: n[1], impl.CkFace: n[2]}[kind]
			for _, id := range []int64{math.MinInt64, -1 << 32, -1, 0, 1, count - 1, count, count + 1, 1 << 32, math.MaxInt64} {
				x, y, ok := impl.CellSides(c.a, c.b, impl.Cell{Kind: kind, Id: id})
				if ok != (0 <= id && id < count) || !ok && (x != 0 || y != 0) {
					t.Error(c, kind, id, x, y, ok)
				}
			}
		}
		for _, kind := range []int64{math.MinInt64, 1<<32 + 1, math.MaxInt64} {
			if x, y, ok := impl.CellSides(c.a, c.b, impl.Cell{Kind: kind}); ok || x != 0 || y != 0 {
				t.Error(c, kind, x, y, ok)
			}
		}
	}
}

func TestCellsOfWrongOnes(t *testing.T) {
	for _, segs := range wrongRows() {
		for _, p := range []impl.Point{point(0, 0, 1), point(1, 1, 2), {}} {
			if got := impl.CellAt(segs, p); got != (impl.Cell{}) {
				t.Error(segs, p, got)
			}
		}
	}
	tri := []impl.Loop{loop(-9, -9, 9, -9, 0, 9)}
	for _, wrong := range wrongPoints() {
		for _, segs := range [][]impl.Seg{nil, {seg(-1, 0, 1, 0)}, squares(3, 2), wrongRows()[0]} {
			if got := impl.CellAt(segs, wrong); got != (impl.Cell{}) {
				t.Error(segs, wrong, got)
			}
		}
		for _, l := range [][]impl.Loop{nil, tri, {loop(0, 0)}} {
			if got := impl.LoopsSide(l, wrong); got != impl.SdNone {
				t.Error(l, wrong, got)
			}
		}
		for i := range 4 {
			bad := loop(-9, -9, 9, -9, 0, 9)
			bad.Points = slices.Insert(bad.Points, i, wrong)
			for _, l := range [][]impl.Loop{{bad}, {tri[0], bad}, {bad, tri[0]}} {
				if area, told := impl.LoopsArea2(l); impl.LoopsOk(l) || told || area != (impl.Ratio{}) || impl.LoopsSide(l, point(0, 0, 1)) != impl.SdNone {
					t.Error(l, area, told)
				}
			}
		}
	}
}

// roomyLayer has spare room behind its rings and behind their spots, and tells what is in all of it.
func roomyLayer(l []impl.Ring) ([]impl.Ring, func() bool) {
	spare := impl.Ring{Spots: []impl.Spot{spot(71, 72)}}
	all := append(slices.Clone(l), spare, spare)
	var rows, was [][]impl.Spot
	for i, r := range l {
		inner, row := roomy(r)
		all[i] = inner
		rows, was = append(rows, row), append(was, slices.Clone(row))
	}
	return all[:len(l)], func() bool {
		return slices.EqualFunc(rows, was, slices.Equal[[]impl.Spot]) && sameLayer(all[:len(l)], l) && sameLayer(all[len(l):], layer(spare, spare))
	}
}

// roomyLoops is the same of loops.
func roomyLoops(l []impl.Loop) ([]impl.Loop, func() bool) {
	spare := loop(71, 72)
	all := append(slices.Clone(l), spare, spare)
	var rows, was [][]impl.Point
	for i, round := range l {
		row := append(slices.Clone(round.Points), point(91, 92, 1), point(93, 94, 1))
		all[i] = impl.Loop{Points: row[:len(round.Points)]}
		rows, was = append(rows, row), append(was, slices.Clone(row))
	}
	return all[:len(l)], func() bool {
		return slices.EqualFunc(rows, was, slices.Equal[[]impl.Point]) && sameLoops(all[:len(l)], l) && sameLoops(all[len(l):], []impl.Loop{spare, spare})
	}
}

func copyLoops(l []impl.Loop) []impl.Loop {
	var out []impl.Loop
	for _, round := range l {
		out = append(out, impl.Loop{Points: slices.Clone(round.Points)})
	}
	return out
}

// scribbleLoops writes over one loop, and the room behind it, after the other, and looks whether another one changes.
func scribbleLoops(t *testing.T, l []impl.Loop) {
	t.Helper()
	kept := copyLoops(l)
	for i, round := range l {
		scribble(round.Points)
		if !sameLoops(l[i+1:], kept[i+1:]) {
			t.Fatal("two lists share", kept)
		}
	}
	scribble(l)
}

func TestOverlaysLeaveMemoryAlone(t *testing.T) {
	wrong := wrongLayers()
	pairs := append(ourPairs(), layerPair{wrong[0], wrong[1]}, layerPair{wrong[7], threes(2)}, layerPair{threes(2), wrong[8]})
	for _, c := range append(pairs, thrownPairs(4)...) {
		a, sameA := roomyLayer(c.a)
		b, sameB := roomyLayer(c.b)
		for range 2 {
			segs, _ := impl.Overlaid(a, b)
			wantSegs, _ := impl.Overlaid(c.a, c.b)
			labels, _ := impl.LabelsOf(a, b)
			wantLabels, _ := impl.LabelsOf(c.a, c.b)
			x, y, _ := impl.CellSides(a, b, edgeCell(1))
			wantX, wantY, _ := impl.CellSides(c.a, c.b, edgeCell(1))
			if !slices.Equal(segs, wantSegs) || !sameLabels(labels, wantLabels) || x != wantX || y != wantY {
				t.Error("another answer", c)
			}
			scribble(segs)
			scribble(labels.InA)
			if !slices.Equal(labels.InB, wantLabels.InB) {
				t.Fatal("two lists share", c)
			}
			scribble(labels.InB)
			for _, op := range opsAll() {
				faces, _ := impl.Chosen(a, b, op)
				wantFaces, _ := impl.Chosen(c.a, c.b, op)
				loops, _ := impl.Combine(a, b, op)
				wantLoops, _ := impl.Combine(c.a, c.b, op)
				if !slices.Equal(faces, wantFaces) || !sameLoops(loops, wantLoops) {
					t.Error("another answer", c, op)
				}
				scribble(faces)
				scribbleLoops(t, loops)
			}
			if !sameA() || !sameB() {
				t.Fatal("written into", c)
			}
		}
	}
}

func TestLoopsAndCellsLeaveMemoryAlone(t *testing.T) {
	for _, l := range append(thrownLoops()[:60], nil, []impl.Loop{{}}, []impl.Loop{wave(61)}, []impl.Loop{wave(201)}, make([]impl.Loop, 41)) {
		ours, same := roomyLoops(l)
		for range 2 {
			area, told := impl.LoopsArea2(ours)
			want, wantTold := impl.LoopsArea2(l)
			if area != want || told != wantTold || impl.LoopsOk(ours) != impl.LoopsOk(l) || impl.LoopsSide(ours, point(1, 1, 2)) != impl.LoopsSide(l, point(1, 1, 2)) {
				t.Error("another answer", l)
			}
			if !same() {
				t.Fatal("written into", l)
			}
		}
	}
	for _, segs := range append(ourSegs(), wrongRows()...) {
		ours, row := roomySegs(segs)
		was := slices.Clone(row)
		for _, p := range []impl.Point{point(0, 0, 1), point(1, 1, 2), point(9, 5, 7)} {
			if impl.CellAt(ours, p) != impl.CellAt(segs, p) || !slices.Equal(row, was) {
				t.Error("written into", segs)
			}
		}
	}
}

// TestCellsAtOnce asks for many cells from many sides at once, and waits until all who were asked have gone home.
func TestCellsAtOnce(t *testing.T) {
	segs := squares(6, 2)
	f := facesWanted(segs)
	before := runtime.NumGoroutine()
	var all []chan impl.Cell
	var wanted []impl.Cell
	for i := range int64(200) {
		p := point(i%27-1, i/8, 1)
		answer := make(chan impl.Cell, 1)
		all, wanted = append(all, answer), append(wanted, f.cellWanted(placeOf(p)))
		go func() { answer <- impl.CellAt(segs, p) }()
	}
	for i, answer := range all {
		if got := <-answer; got != wanted[i] {
			t.Error(i, got, wanted[i])
		}
	}
	for range 1000000 {
		if runtime.NumGoroutine() <= before {
			return
		}
		runtime.Gosched()
	}
	t.Error("left behind", runtime.NumGoroutine()-before)
}
