package tests

import (
	"cmp"
	"math"
	"math/big"
	"slices"
	"testing"

	"loop.example/g00225/impl"
)

// lean is how far along a place comes to a line that leans a little to the left and moves on to the right: so little that right points of one x alone feel it.
func lean(p place) *big.Rat {
	return ratPlus(p.x, ratTimes(p.y, new(big.Rat).SetFrac(big.NewInt(1), power(400))))
}

// trapped are the traps of segments, worked out by such lines, one for each place.
type trapped struct {
	*faces
	segs []impl.Seg
	// lines are how far along these are, rows the edges that each crosses from low to high, gaps the numbers of the traps below, between and above them.
	lines []*big.Rat
	rows  [][]int64
	gaps  [][]int64
	traps []impl.Trap
}

// heightAt is where an edge crosses a line.
func (f *trapped) heightAt(e int64, line *big.Rat) *big.Rat {
	a, b := placeOf(f.plan.Points[f.plan.Edges[e].From]), placeOf(f.plan.Points[f.plan.Edges[e].To])
	u := new(big.Rat).Quo(ratLess(line, lean(a)), ratLess(lean(b), lean(a)))
	return ratPlus(a.y, ratTimes(u, ratLess(b.y, a.y)))
}

func (f *trapped) putRows() {
	var at []*big.Rat
	for _, p := range f.plan.Points {
		at = append(at, lean(placeOf(p)))
	}
	f.lines = []*big.Rat{new(big.Rat)}
	if len(at) > 0 {
		f.lines[0] = ratLess(at[0], big.NewRat(1, 1))
	}
	for i := range at {
		next := ratPlus(at[i], big.NewRat(2, 1))
		if i+1 < len(at) {
			next = at[i+1]
		}
		f.lines = append(f.lines, ratTimes(ratPlus(at[i], next), big.NewRat(1, 2)))
	}
	for _, line := range f.lines {
		heights := map[int64]*big.Rat{}
		row := []int64{}
		for e, edge := range f.plan.Edges {
			if at[edge.From].Cmp(line) < 0 && line.Cmp(at[edge.To]) < 0 {
				heights[int64(e)] = f.heightAt(int64(e), line)
				row = append(row, int64(e))
			}
		}
		slices.SortFunc(row, func(e, g int64) int { return heights[e].Cmp(heights[g]) })
		f.rows = append(f.rows, row)
	}
}

// edgesOf are those below and above a gap, -1 where there is none.
func edgesOf(row []int64, gap int) [2]int64 {
	all := slices.Concat([]int64{-1}, row, []int64{-1})
	return [2]int64{all[gap], all[gap+1]}
}

func (f *trapped) putTraps() {
	last := map[[2]int64]int64{}
	for at, row := range f.rows {
		now, ended := map[[2]int64]int64{}, int64(at-1)
		var gaps []int64
		for gap := range len(row) + 1 {
			edges := edgesOf(row, gap)
			n, goesOn := last[edges]
			if !goesOn {
				n = int64(len(f.traps))
				f.traps = append(f.traps, impl.Trap{Left: ended, Right: -1, Low: edges[0], High: edges[1]})
			}
			now[edges] = n
			gaps = append(gaps, n)
		}
		for edges, n := range last {
			if _, goesOn := now[edges]; !goesOn {
				f.traps[n].Right = ended
			}
		}
		f.gaps = append(f.gaps, gaps)
		last = now
	}
}

func trapsWanted(segs []impl.Seg) *trapped {
	f := &trapped{faces: facesWanted(segs), segs: segs}
	f.putRows()
	f.putTraps()
	return f
}

// trapWanted is the number of the trap of a point, if it lies in a face.
func (f *trapped) trapWanted(p impl.Point) (int64, bool) {
	at := placeOf(p)
	if f.cellWanted(at).Kind != impl.CkFace {
		return 0, false
	}
	n := 0
	for n < len(f.plan.Points) && placeOf(f.plan.Points[n]).order(at) < 0 {
		n++
	}
	gap := 0
	for gap < len(f.rows[n]) && f.heightAt(f.rows[n][gap], lean(at)).Cmp(at.y) < 0 {
		gap++
	}
	return f.gaps[n][gap], true
}

// inGap is a place in a gap, on the line that goes through it.
func (f *trapped) inGap(at, gap int) place {
	edges, line := edgesOf(f.rows[at], gap), f.lines[at]
	y := new(big.Rat)
	switch {
	case edges[0] >= 0 && edges[1] >= 0:
		y = ratTimes(ratPlus(f.heightAt(edges[0], line), f.heightAt(edges[1], line)), big.NewRat(1, 2))
	case edges[0] >= 0:
		y = ratPlus(f.heightAt(edges[0], line), big.NewRat(1, 1))
	case edges[1] >= 0:
		y = ratLess(f.heightAt(edges[1], line), big.NewRat(1, 1))
	}
	return place{ratLess(line, lean(place{new(big.Rat), y})), y}
}

// checkTrapFaces asks for the faces of some traps, by a place in each.
func (f *trapped) checkTrapFaces(t *testing.T, some int) {
	t.Helper()
	for _, n := range pickedOf(len(f.traps), some) {
		at := slices.IndexFunc(f.gaps, func(gaps []int64) bool { return slices.Contains(gaps, n) })
		in := f.inGap(at, slices.Index(f.gaps[at], n))
		want := f.cellWanted(in)
		if got := impl.FaceOfTrap(f.segs, n); want.Kind != impl.CkFace || got != want.Id {
			t.Fatal("face of a trap", f.segs, n, got, want, in)
		}
	}
}

// ordersOf are orders of n edges: rising, falling, from the middle out, by turns, and thrown ones.
func ordersOf(n int, thrown int, d *dice) [][]int64 {
	rising := make([]int64, n)
	for i := range rising {
		rising[i] = int64(i)
	}
	falling := slices.Clone(rising)
	slices.Reverse(falling)
	byTurns, out := slices.Clone(rising), slices.Clone(rising)
	slices.SortStableFunc(byTurns, func(a, b int64) int { return cmp.Compare(a%3, b%3) })
	far := func(a int64) int64 { return max(a-int64(n/2), int64(n/2)-a) }
	slices.SortStableFunc(out, func(a, b int64) int { return cmp.Compare(far(a), far(b)) })
	all := [][]int64{rising, falling, byTurns, out}
	for range thrown {
		order := slices.Clone(rising)
		for i := range order {
			k := d.word() % uint64(i+1)
			order[i], order[k] = order[k], order[i]
		}
		all = append(all, order)
	}
	return all
}

// pointsAbout are points of segments and of their plan, over and under these, on edges, and next to them.
func (f *trapped) pointsAbout(d *dice, some int) []impl.Point {
	var out []impl.Point
	put := func(at place) {
		if p, told := pointAt(at); told {
			out = append(out, p)
		}
	}
	near := pointsNear(f.segs)
	for _, i := range pickedOf(len(near), some) {
		out = append(out, near[i])
	}
	for _, v := range pickedOf(len(f.plan.Points), some) {
		at := placeOf(f.plan.Points[v])
		for _, up := range []*big.Rat{new(big.Rat), big.NewRat(1, 1), big.NewRat(-1, 1), big.NewRat(1, 64), big.NewRat(-1, 64), big.NewRat(2*edge+5, 1), big.NewRat(-2*edge-5, 1)} {
			put(place{at.x, ratPlus(at.y, up)})
		}
		put(d.justBeside(at)[d.word()%15])
	}
	for _, e := range pickedOf(len(f.plan.Edges), some) {
		middle := halfWay(placeOf(f.plan.Points[f.plan.Edges[e].From]), placeOf(f.plan.Points[f.plan.Edges[e].To]))
		put(middle)
		beside := d.justBeside(middle)
		put(beside[d.word()%15])
		put(beside[d.word()%15])
		put(f.within(2 * e))
		put(f.within(2*e + 1))
	}
	return append(out, d.point(), d.point())
}

// checkTraps asks of segments all that chapter 12 tells, of some points and traps.
func checkTraps(t *testing.T, segs []impl.Seg, some int, d *dice) *trapped {
	t.Helper()
	f := trapsWanted(segs)
	if got, ok := impl.TrapsOf(segs); !ok || !slices.Equal(got, f.traps) {
		t.Fatal("traps", segs, got, ok, f.traps)
	}
	f.checkTrapFaces(t, some)
	orders := ordersOf(len(f.plan.Edges), 2, d)
	for i, p := range f.pointsAbout(d, some) {
		want, lies := f.trapWanted(p)
		if got, ok := impl.TrapAt(segs, p); got != want || ok != lies {
			t.Fatal("trap", segs, p, got, ok, want, lies)
		}
		order := orders[i%len(orders)]
		if got, want := impl.LocateBy(segs, order, p), f.cellWanted(placeOf(p)); got != want {
			t.Fatal("cell", segs, order, p, got, want)
		}
	}
	return f
}

// count notes what kinds of traps there are.
func (f *trapped) count(seen map[string]int) {
	upright := func(e int64) bool {
		return e >= 0 && placeOf(f.plan.Points[f.plan.Edges[e].From]).x.Cmp(placeOf(f.plan.Points[f.plan.Edges[e].To]).x) == 0
	}
	pairs := map[[2]int64]int{}
	for _, trap := range f.traps {
		pairs[[2]int64{trap.Low, trap.High}]++
		if trap.Left >= 0 && trap.Right >= 0 && placeOf(f.plan.Points[trap.Left]).x.Cmp(placeOf(f.plan.Points[trap.Right]).x) == 0 {
			seen["from a point to one of the same x"]++
		}
		if upright(trap.Low) {
			seen["over an upright edge"]++
		}
		if upright(trap.High) {
			seen["under an upright edge"]++
		}
		if trap.Low >= 0 && trap.High >= 0 {
			seen["between two edges"]++
			if f.dcel.Halves[2*trap.Low].Face > 0 {
				seen["in a face that is bounded"]++
			}
		}
		if trap.Right-trap.Left > 2 && trap.Left >= 0 {
			seen["past a point"]++
		}
	}
	for edges, n := range pairs {
		if n > 1 && edges[0] >= 0 && edges[1] >= 0 {
			seen["two between the same edges"]++
		}
	}
	for _, edge := range f.plan.Edges {
		if len(edge.Segs) > 1 {
			seen["edge of several"]++
		}
	}
}

func TestTraps(t *testing.T) {
	t.Parallel()
	seen := map[string]int{}
	d := dice(211)
	for i, segs := range slices.Concat(rightSegs(), [][]impl.Seg{squares(6, 2), squares(10, 1), d.crumbs(4), d.crumbs(6), d.shortSegs(30, 4), d.needle()}) {
		if len(segs) > 24 && i%4 > 0 || countsOf(segs)[1] > 70 {
			continue
		}
		checkTraps(t, segs, 6, &d).count(seen)
	}
	for _, kind := range []string{"from a point to one of the same x", "over an upright edge", "under an upright edge", "between two edges", "in a face that is bounded", "past a point", "two between the same edges", "edge of several"} {
		if seen[kind] < 30 {
			t.Error("too few of a kind", kind, seen)
		}
	}
}

// TestTrapsOfSmallLattices takes thrown segments where nearly all touch, lie over one another or stand upright.
func TestTrapsOfSmallLattices(t *testing.T) {
	t.Parallel()
	d := dice(223)
	for i := range 160 {
		checkTraps(t, d.segs(1+i%8, 1+int64(i%3)), 4, &d)
	}
	for i := range 40 {
		checkTraps(t, d.shortSegs(3+i%12, 2+int64(i%3)), 4, &d)
	}
}

func trap(left, right, low, high int64) impl.Trap {
	return impl.Trap{Left: left, Right: right, Low: low, High: high}
}

func TestTrapsOfOurOwn(t *testing.T) {
	level := []impl.Trap{trap(-1, 0, -1, -1), trap(0, 1, -1, 0), trap(0, 1, 0, -1), trap(1, -1, -1, -1)}
	for i, c := range []struct {
		segs  []impl.Seg
		want  []impl.Trap
		faces []int64
	}{
		{nil, []impl.Trap{trap(-1, -1, -1, -1)}, []int64{0}}, {[]impl.Seg{}, []impl.Trap{trap(-1, -1, -1, -1)}, []int64{0}},
		// One edge, whichever way it goes, and of however many segments it is.
		{[]impl.Seg{seg(0, 0, 4, 0)}, level, []int64{0, 0, 0, 0}}, {[]impl.Seg{seg(0, 0, 4, -9)}, level, []int64{0, 0, 0, 0}}, {[]impl.Seg{seg(0, 0, 0, 4)}, level, []int64{0, 0, 0, 0}}, {repeated(seg(-edge, -edge, edge, edge), 40), level, []int64{0, 0, 0, 0}}, {repeated(seg(3, -edge, 3, edge), 7), level, []int64{0, 0, 0, 0}},
		// Two that follow one another, level and upright.
		{[]impl.Seg{seg(0, 0, 2, 0), seg(1, 0, 3, 0)}, []impl.Trap{trap(-1, 0, -1, -1), trap(0, 1, -1, 0), trap(0, 1, 0, -1), trap(1, 2, -1, 1), trap(1, 2, 1, -1), trap(2, 3, -1, 2), trap(2, 3, 2, -1), trap(3, -1, -1, -1)}, make([]int64, 8)},
		{[]impl.Seg{seg(0, 0, 0, 2), seg(0, 1, 0, 3)}, []impl.Trap{trap(-1, 0, -1, -1), trap(0, 1, -1, 0), trap(0, 1, 0, -1), trap(1, 2, -1, 1), trap(1, 2, 1, -1), trap(2, 3, -1, 2), trap(2, 3, 2, -1), trap(3, -1, -1, -1)}, make([]int64, 8)},
		// One over the other, from the same x to the same x: the upper one's first point comes later, and its last one too.
		{[]impl.Seg{seg(0, 0, 4, 0), seg(0, 1, 4, 1)}, []impl.Trap{trap(-1, 0, -1, -1), trap(0, 2, -1, 0), trap(0, 1, 0, -1), trap(1, 2, 0, 1), trap(1, 3, 1, -1), trap(2, 3, -1, 1), trap(3, -1, -1, -1)}, make([]int64, 7)},
		// A point between two edges: what is behind it lies between the same two, and is another trap.
		{[]impl.Seg{seg(0, 0, 9, 0), seg(0, 9, 9, 9), seg(4, 4, 5, 4)}, []impl.Trap{
			trap(-1, 0, -1, -1), trap(0, 4, -1, 0), trap(0, 1, 0, -1), trap(1, 2, 0, 1), trap(1, 5, 1, -1), trap(2, 3, 0, 2), trap(2, 3, 2, 1), trap(3, 4, 0, 1), trap(4, 5, -1, 1), trap(5, -1, -1, -1),
		}, make([]int64, 10)},
		// Two upright ones over one another: one is done ahead of the other.
		{[]impl.Seg{seg(0, 0, 0, 1), seg(0, 2, 0, 3)}, []impl.Trap{trap(-1, 0, -1, -1), trap(0, 1, -1, 0), trap(0, 1, 0, -1), trap(1, 2, -1, -1), trap(2, 3, -1, 1), trap(2, 3, 1, -1), trap(3, -1, -1, -1)}, make([]int64, 7)},
		// A triangle: edges 0 1 above, 0 2 below, 1 2 above.
		{[]impl.Seg{seg(0, 0, 2, 0), seg(0, 0, 1, 1), seg(1, 1, 2, 0)}, []impl.Trap{
			trap(-1, 0, -1, -1), trap(0, 2, -1, 1), trap(0, 1, 1, 0), trap(0, 1, 0, -1), trap(1, 2, 1, 2), trap(1, 2, 2, -1), trap(2, -1, -1, -1),
		}, []int64{0, 0, 1, 0, 1, 0, 0}},
		// A square: its points are (0, 0), (0, 4), (4, 0), (4, 4), its edges 0 1, 0 2, 1 3, 2 3. Right of an upright edge is below it.
		{segsWanted(square(0, 0, 4)), []impl.Trap{
			trap(-1, 0, -1, -1), trap(0, 2, -1, 1), trap(0, 1, 1, 0), trap(0, 1, 0, -1), trap(1, 2, 1, 2), trap(1, 3, 2, -1), trap(2, 3, -1, 3), trap(2, 3, 3, 2), trap(3, -1, -1, -1),
		}, []int64{0, 0, 1, 0, 1, 0, 0, 1, 0}},
		// A cross: (0, 0), (0, 2), (1, 1), (2, 0), (2, 2).
		{[]impl.Seg{seg(0, 0, 2, 2), seg(0, 2, 2, 0)}, []impl.Trap{
			trap(-1, 0, -1, -1), trap(0, 2, -1, 0), trap(0, 1, 0, -1), trap(1, 2, 0, 1), trap(1, 2, 1, -1), trap(2, 3, -1, 2), trap(2, 3, 2, 3), trap(2, 4, 3, -1), trap(3, 4, -1, 3), trap(4, -1, -1, -1),
		}, make([]int64, 10)},
	} {
		if got, ok := impl.TrapsOf(c.segs); !ok || !slices.Equal(got, c.want) {
			t.Error(i, got, ok)
		}
		for n, want := range c.faces {
			if got := impl.FaceOfTrap(c.segs, int64(n)); got != want {
				t.Error(i, n, got, want)
			}
		}
	}
}

func TestTrapsOfPointsOfOurOwn(t *testing.T) {
	far, _ := wideOf(bigPart(-1))
	back, _ := wideOf(new(big.Int).Neg(bigPart(-1)))
	lone := []impl.Seg{seg(0, 0, 9, 0), seg(0, 9, 9, 9), seg(4, 4, 5, 4)}
	box := segsWanted(square(0, 0, 4))
	wall := []impl.Seg{seg(2, 0, 2, 4)}
	for i, c := range []struct {
		segs []impl.Seg
		p    impl.Point
		want int64
	}{
		{nil, point(0, 0, 1), 0}, {nil, impl.Point{X: far, Y: back, W: one}, 0},
		// Straight over and under points: what comes ahead of them and what comes behind.
		{lone, point(-1, 5, 1), 0}, {lone, point(0, -1, 1), 0}, {lone, point(0, 1, 1), 2}, {lone, point(0, 10, 1), 4}, {lone, point(4, 3, 1), 3}, {lone, point(4, 5, 1), 6}, {lone, point(4, 10, 1), 4}, {lone, point(5, 3, 1), 5}, {lone, point(5, 5, 1), 7}, {lone, point(5, -1, 1), 1},
		{lone, point(9, 3, 2), 5}, {lone, point(9, 7, 2), 5}, {lone, point(9, 9, 2), 6}, {lone, point(8, 4, 1), 7}, {lone, point(9, -1, 1), 1}, {lone, point(9, 1, 1), 8}, {lone, point(9, 10, 1), 9}, {lone, point(10, 0, 1), 9},
		{lone, impl.Point{X: one, Y: one, W: far}, 3}, {lone, impl.Point{X: one, Y: impl.WideOf(-1), W: far}, 1}, {lone, impl.Point{X: impl.WideOf(-1), Y: one, W: far}, 0}, {lone, impl.Point{X: far, Y: far, W: one}, 9}, {lone, impl.Point{X: back, Y: far, W: one}, 0}, {lone, impl.Point{X: zero, Y: far, W: one}, 4},
		// A point of the square's last x: above it comes behind it, below it ahead of it.
		{box, point(2, 2, 1), 4}, {box, point(1, 1, 1), 4}, {box, point(2, -2, 1), 1}, {box, point(4, -2, 1), 1}, {box, point(0, -2, 1), 0}, {box, point(0, 9, 1), 5}, {box, point(4, 9, 1), 8}, {box, point(2, 9, 1), 5}, {box, point(5, 2, 1), 8}, {box, point(-1, 2, 1), 0},
		{wall, point(1, 2, 1), 0}, {wall, point(2, -1, 1), 0}, {wall, point(2, 5, 1), 3}, {wall, point(3, 2, 1), 3},
	} {
		if got, ok := impl.TrapAt(c.segs, c.p); !ok || got != c.want {
			t.Error(i, impl.PointText(c.p), got, ok, c.want)
		}
	}
	for i, c := range []struct {
		segs []impl.Seg
		p    impl.Point
	}{
		{lone, point(0, 0, 1)}, {lone, point(4, 4, 1)}, {lone, point(9, 4*2, 2)}, {lone, point(1, 0, 1)}, {lone, point(7, 9, 1)}, {box, point(0, 0, 1)}, {box, point(0, 1, 1)}, {box, point(4, 2, 1)}, {box, point(4, 4, 1)}, {box, point(2, 4, 1)}, {wall, point(2, 1, 1)}, {wall, point(2, 4, 1)}, {wall, point(4, 1, 2)},
	} {
		if got, ok := impl.TrapAt(c.segs, c.p); ok || got != 0 {
			t.Error("in no face", i, got, ok)
		}
	}
}

// permutations are all orders of n numbers.
func permutations(n int64) [][]int64 {
	if n == 0 {
		return [][]int64{{}}
	}
	var out [][]int64
	for _, order := range permutations(n - 1) {
		for i := range n {
			out = append(out, slices.Insert(slices.Clone(order), int(i), n-1))
		}
	}
	return out
}

// TestLocatedInAllOrders puts few edges in in each order that there is.
func TestLocatedInAllOrders(t *testing.T) {
	t.Parallel()
	d := dice(227)
	rows := [][]impl.Seg{
		nil, {seg(0, 0, 4, 2)}, {seg(0, 0, 0, 2)}, {seg(0, 0, 2, 2), seg(0, 2, 2, 0)}, segsWanted(square(0, 0, 4)), {seg(0, 0, 2, 0), seg(0, 0, 1, 1), seg(1, 1, 2, 0)}, {seg(0, 0, 9, 0), seg(0, 9, 9, 9), seg(4, 4, 5, 4), seg(2, 3, 7, 3), seg(3, 6, 6, 7)},
		{seg(0, 0, 0, 4), seg(0, 2, 4, 2), seg(4, 0, 4, 4)}, {seg(0, 0, 4, 0), seg(0, 1, 4, 1), seg(0, 2, 4, 2), seg(0, 3, 4, 3), seg(0, 4, 4, 4)}, {seg(0, 0, 0, 9), seg(1, 0, 1, 9), seg(0, 3, 1, 4), seg(0, 6, 1, 5)}, onLine(seg(0, 0, 0, 1), 0, 3, 2, 5, 4, 6), onLine(seg(0, 0, 2, 1), 0, 3, 2, 5, 7, 9),
		{seg(0, 0, 4, 1), seg(0, 0, 4, 2), seg(0, 0, 4, 3), seg(0, 0, 0, 4), seg(-3, -1, 0, 0)}, {seg(-4, 1, 0, 0), seg(-4, 2, 0, 0), seg(-4, 3, 0, 0), seg(0, 0, 0, 4), seg(0, 0, 3, 1)},
	}
	for range 12 {
		rows = append(rows, d.segs(2, 2), d.shortSegs(4, 2), d.segs(3, 9))
	}
	asked := 0
	for _, segs := range rows {
		f := trapsWanted(segs)
		n := int64(len(f.plan.Edges))
		if n > 6 {
			continue
		}
		points := f.pointsAbout(&d, 4)
		for i, order := range permutations(n) {
			// Of many orders each has another few of the points.
			for k, p := range points {
				if n > 4 && (i+k)%7 > 0 {
					continue
				}
				asked++
				if got, want := impl.LocateBy(segs, order, p), f.cellWanted(placeOf(p)); got != want {
					t.Fatal(segs, order, p, got, want)
				}
			}
		}
	}
	if asked < 20000 {
		t.Error("too few", asked)
	}
}

// checkPromise12 leans on nothing but the answers.
func checkPromise12(t *testing.T, segs []impl.Seg, d *dice) {
	t.Helper()
	traps, ok := impl.TrapsOf(segs)
	n := countsOf(segs)
	if !ok || int64(len(traps)) != n[0]+n[1]+1 {
		t.Fatal("how many", segs, traps, n)
	}
	orders := ordersOf(int(n[1]), 3, d)
	points := pointsNear(segs)
	for _, i := range pickedOf(len(points), 12) {
		p := points[i]
		cell := impl.CellAt(segs, p)
		trap, lies := impl.TrapAt(segs, p)
		if lies != (cell.Kind == impl.CkFace) || lies && impl.FaceOfTrap(segs, trap) != cell.Id || !lies && trap != 0 {
			t.Fatal("trap", segs, p, trap, lies, cell)
		}
		for _, order := range orders {
			if got := impl.LocateBy(segs, order, p); got != cell {
				t.Fatal("cell", segs, order, p, got, cell)
			}
		}
	}
}

func TestPromise12(t *testing.T) {
	t.Parallel()
	d := dice(229)
	for i, segs := range slices.Concat(rightSegs(), [][]impl.Seg{squares(10, 1), squares(10, 50000), d.crumbs(6), d.crumbs(9), d.shortSegs(40, 9)}) {
		if len(segs) < 20 || i%6 == 0 {
			checkPromise12(t, segs, &d)
		}
	}
}

// TestGreatestTraps has 40 segments: all cross all, all through one point, a lattice, squares in squares, all apart.
func TestGreatestTraps(t *testing.T) {
	t.Parallel()
	d := dice(233)
	var crossed, through, apart []impl.Seg
	for i := range int64(40) {
		crossed = append(crossed, seg(-1000, i*i*i, 1000, -i*i*i+i))
		through = append(through, seg(-100, i-20, 100, 20-i))
		apart = append(apart, seg(i, -i, i+100, 100-i))
	}
	for i, segs := range [][]impl.Seg{crossed, through, apart, fence(20), squares(10, 50000)} {
		f := &trapped{faces: facesWanted(segs), segs: segs}
		traps, ok := impl.TrapsOf(segs)
		if n := f.counts(); !ok || int64(len(traps)) != n[0]+n[1]+1 {
			t.Error(i, len(traps), n)
		}
		orders := ordersOf(len(f.plan.Edges), 2, &d)
		for k, p := range f.pointsAbout(&d, 2) {
			want := f.cellWanted(placeOf(p))
			if got := impl.LocateBy(segs, orders[k%len(orders)], p); got != want {
				t.Error(i, p, got, want)
			}
			n, lies := impl.TrapAt(segs, p)
			if lies != (want.Kind == impl.CkFace) || lies && impl.FaceOfTrap(segs, n) != want.Id {
				t.Error(i, p, n, lies, want)
			}
		}
	}
}

// TestTrapsInAnyOrder asks of the same segments in another order: nothing changes.
func TestTrapsInAnyOrder(t *testing.T) {
	for _, segs := range rightSegs() {
		turned := slices.Clone(segs)
		slices.Reverse(turned)
		traps, _ := impl.TrapsOf(segs)
		others, _ := impl.TrapsOf(turned)
		if !slices.Equal(traps, others) {
			t.Error(segs)
		}
	}
}

func TestTrapsOfWrongOnes(t *testing.T) {
	refused := func(what string, segs []impl.Seg, order []int64, p impl.Point) {
		if got := impl.LocateBy(segs, order, p); got != (impl.Cell{}) {
			t.Error("cell", what, order, p, got)
		}
	}
	for _, wrong := range wrongRows() {
		if got, ok := impl.TrapsOf(wrong); ok || len(got) != 0 {
			t.Error("traps", wrong, got, ok)
		}
		if got, ok := impl.TrapAt(wrong, point(0, 3, 1)); ok || got != 0 {
			t.Error("trap", wrong, got, ok)
		}
		for _, n := range []int64{-1, 0, 1} {
			if got := impl.FaceOfTrap(wrong, n); got != -1 {
				t.Error("face", wrong, n, got)
			}
		}
		refused("wrong segments", wrong, nil, point(0, 3, 1))
		refused("wrong segments", wrong, []int64{0}, point(0, 3, 1))
	}
	box := segsWanted(square(0, 0, 4))
	for _, p := range wrongPoints() {
		for _, segs := range [][]impl.Seg{nil, box} {
			if got, ok := impl.TrapAt(segs, p); ok || got != 0 {
				t.Error("point", p, got, ok)
			}
		}
		refused("point", box, []int64{0, 1, 2, 3}, p)
		refused("point", nil, nil, p)
	}
	for _, order := range [][]int64{
		nil, {}, {0}, {0, 1, 2}, {1, 2, 3}, {0, 1, 2, 3, 4}, {0, 1, 2, 3, 0}, {0, 1, 2, 2}, {0, 0, 1, 2}, {3, 3, 3, 3}, {0, 1, 2, 4}, {1, 2, 3, 4}, {-1, 0, 1, 2}, {0, 1, 2, -3}, {0, 1, 2, math.MaxInt64}, {0, 1, 2, math.MinInt64}, {0, 1, 2, 1<<32 + 3}, {0, 1, 2, 3, 3}, make([]int64, 4), make([]int64, 4000),
	} {
		for _, p := range []impl.Point{point(2, 2, 1), point(0, 0, 1), point(0, 1, 1), point(-9, 0, 1)} {
			refused("order", box, order, p)
		}
	}
	refused("order of none", nil, []int64{0}, point(2, 2, 1))
	refused("order of none", nil, []int64{-1}, point(2, 2, 1))
	refused("order of one", repeated(box[0], 2), []int64{0, 1}, point(2, 2, 1))
}

func TestFacesOfNoTrap(t *testing.T) {
	for _, segs := range ourSegs() {
		traps, _ := impl.TrapsOf(segs)
		n := int64(len(traps))
		for _, wrong := range []int64{math.MinInt64, -1 << 32, -2, -1, n, n + 1, 1 << 32, 1<<32 + 1, math.MaxInt64} {
			if got := impl.FaceOfTrap(segs, wrong); got != -1 {
				t.Error(segs, wrong, got)
			}
		}
		if first, last := impl.FaceOfTrap(segs, 0), impl.FaceOfTrap(segs, n-1); first != 0 || last != 0 {
			t.Error("the first and the last one", segs, first, last)
		}
	}
}

func TestTrapsLeaveMemoryAlone(t *testing.T) {
	for _, segs := range slices.Concat(ourSegs(), wrongRows()) {
		ours, row := roomySegs(segs)
		was := slices.Clone(row)
		order := ordersOf(int(countsOf(segs)[1]), 0, nil)[2]
		orderRow := append(slices.Clone(order), 91, 92, 93)
		orderWas, ourOrder := slices.Clone(orderRow), orderRow[:len(order)]
		for range 2 {
			traps, ok := impl.TrapsOf(ours)
			wanted, wantedOk := impl.TrapsOf(segs)
			if ok != wantedOk || !slices.Equal(traps, wanted) {
				t.Error("another answer", segs)
			}
			scribble(traps)
			for _, p := range []impl.Point{point(1, 3, 2), point(0, 0, 1), point(-edge, edge, 1)} {
				n, ok := impl.TrapAt(ours, p)
				wanted, wantedOk := impl.TrapAt(segs, p)
				if n != wanted || ok != wantedOk || impl.FaceOfTrap(ours, n) != impl.FaceOfTrap(segs, n) || impl.LocateBy(ours, ourOrder, p) != impl.LocateBy(segs, order, p) {
					t.Error("another trap", segs, p)
				}
			}
			if !slices.Equal(row, was) || !slices.Equal(orderRow, orderWas) {
				t.Fatal("written into", segs)
			}
		}
	}
}
