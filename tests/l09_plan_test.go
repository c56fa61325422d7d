package tests

import (
	"cmp"
	"math"
	"math/big"
	"slices"
	"testing"

	"loop.example/g00225/impl"
)

func lineTo(from, to int64, segs ...int64) impl.Edge {
	return impl.Edge{From: from, To: to, Segs: segs}
}

func sameEdge(a, b impl.Edge) bool {
	return a.From == b.From && a.To == b.To && slices.Equal(a.Segs, b.Segs)
}

func samePlan(p, q impl.Plan) bool {
	return slices.Equal(p.Points, q.Points) && slices.EqualFunc(p.Edges, q.Edges, sameEdge)
}

// inBoth are the numbers that two rising lists have in common.
func inBoth(a, b []int64) []int64 {
	var out []int64
	for _, n := range a {
		if slices.Contains(b, n) {
			out = append(out, n)
		}
	}
	return out
}

// planWanted asks of each pair of points whether a segment has both, and no other point between them.
func planWanted(segs []impl.Seg) impl.Plan {
	hits := hitsWanted(segs)
	var plan impl.Plan
	for from, h := range hits {
		plan.Points = append(plan.Points, h.At)
		for to := from + 1; to < len(hits); to++ {
			both := inBoth(h.Segs, hits[to].Segs)
			if len(both) == 0 {
				continue
			}
			parted := slices.ContainsFunc(hits[from+1:to], func(between impl.Hit) bool { return slices.Contains(between.Segs, both[0]) })
			if !parted {
				plan.Edges = append(plan.Edges, lineTo(int64(from), int64(to), both...))
			}
		}
	}
	return plan
}

// quarter is where a way goes to: right, straight up, left, straight down.
func quarter(x, y *big.Rat) int {
	if x.Sign() == 0 {
		return 2 - y.Sign()
	}
	return 1 - x.Sign()
}

// aroundWanted goes by the turns of the points themselves.
func aroundWanted(plan impl.Plan, v int64) []int64 {
	at := placeOf(plan.Points[v])
	ends := map[int64]place{}
	var out []int64
	for e, edge := range plan.Edges {
		if edge.From == v {
			out = append(out, int64(2*e))
			ends[int64(2*e)] = placeOf(plan.Points[edge.To])
		}
		if edge.To == v {
			out = append(out, int64(2*e+1))
			ends[int64(2*e+1)] = placeOf(plan.Points[edge.From])
		}
	}
	slices.SortFunc(out, func(g, h int64) int {
		p, q := ends[g], ends[h]
		first := quarter(ratLess(p.x, at.x), ratLess(p.y, at.y))
		second := quarter(ratLess(q.x, at.x), ratLess(q.y, at.y))
		return cmp.Or(cmp.Compare(first, second), -int(at.turn(p, q)))
	})
	return out
}

// someOf are all numbers below n, or some of them where there are many.
func someOf(n int) []int64 {
	var out []int64
	for i := 0; i < n; i += 1 + n/60 {
		out = append(out, int64(i))
	}
	return out
}

// checkWays goes along each segment by its edges.
func checkWays(t *testing.T, segs []impl.Seg, plan impl.Plan) {
	t.Helper()
	for n, s := range segs {
		edges, ok := impl.EdgesOn(segs, int64(n))
		if !ok || len(edges) == 0 {
			t.Fatal("no edges", segs, n)
		}
		at := impl.PointOf(s.A)
		for i, e := range edges {
			edge := plan.Edges[e]
			if i > 0 && edges[i-1] >= e || plan.Points[edge.From] != at || !slices.Contains(edge.Segs, int64(n)) {
				t.Fatal("no way", segs, n, edges)
			}
			at = plan.Points[edge.To]
		}
		if at != impl.PointOf(s.B) {
			t.Fatal("not to its end", segs, n, edges)
		}
	}
}

// checkHalves asks whether each half leaves the point that it comes from, and no other one.
func checkHalves(t *testing.T, segs []impl.Seg, plan impl.Plan) {
	t.Helper()
	left := make([]int64, 2*len(plan.Edges))
	for v := range plan.Points {
		halves, ok := impl.Around(segs, int64(v))
		if !ok || impl.DegreeOf(segs, int64(v)) != int64(len(halves)) {
			t.Fatal("degree", segs, v, halves)
		}
		for _, h := range halves {
			edge := plan.Edges[h/2]
			if h%2 == 0 && edge.From != int64(v) || h%2 == 1 && edge.To != int64(v) {
				t.Fatal("leaves another one", segs, v, halves)
			}
			left[h]++
		}
	}
	if slices.ContainsFunc(left, func(n int64) bool { return n != 1 }) {
		t.Fatal("not each once", segs, left)
	}
}

// checkEdges asks which points lie on which edges.
func checkEdges(t *testing.T, segs []impl.Seg, plan impl.Plan) {
	t.Helper()
	for _, edge := range plan.Edges {
		if edge.From >= edge.To {
			t.Fatal("From is not below To", segs, edge)
		}
		from, to := plan.Points[edge.From], plan.Points[edge.To]
		for v, p := range plan.Points {
			isEnd := int64(v) == edge.From || int64(v) == edge.To
			if impl.Between(from, to, p) != isEnd {
				t.Fatal("a point lies on an edge", segs, edge, v)
			}
		}
	}
}

func TestPlans(t *testing.T) {
	t.Parallel()
	seen := map[string]int{}
	for _, segs := range rightSegs() {
		plan, ok := impl.PlanOf(segs)
		if want := planWanted(segs); !ok || !samePlan(plan, want) {
			t.Fatal(segs, plan, ok, want)
		}
		checkWays(t, segs, plan)
		if len(plan.Points) < 50 {
			checkHalves(t, segs, plan)
			checkEdges(t, segs, plan)
		}
		for _, edge := range plan.Edges {
			seen["shared"] += min(len(edge.Segs)-1, 1)
			seen["of many"] += min(len(edge.Segs)/4, 1)
			if plan.Points[edge.From].W != one || plan.Points[edge.To].W != one {
				seen["between whole ones"]++
			}
		}
	}
	if seen["shared"] < 300 || seen["of many"] < 40 || seen["between whole ones"] < 2000 {
		t.Error("too few of a kind", seen)
	}
}

func TestHalvesAround(t *testing.T) {
	t.Parallel()
	seen := map[string]int{}
	for _, segs := range rightSegs() {
		plan, _ := impl.PlanOf(segs)
		for _, v := range someOf(len(plan.Points)) {
			got, ok := impl.Around(segs, v)
			want := aroundWanted(plan, v)
			if !ok || !slices.Equal(got, want) || impl.DegreeOf(segs, v) != int64(len(want)) {
				t.Fatal(segs, v, got, ok, want)
			}
			for _, h := range got {
				edge := plan.Edges[h/2]
				if s := segs[edge.Segs[0]]; s.A.X == s.B.X {
					seen[[]string{"up", "down"}[h%2]]++
				}
			}
			if len(got) > 5 {
				seen["many"]++
			}
		}
	}
	if seen["up"] < 300 || seen["down"] < 300 || seen["many"] < 50 {
		t.Error("too few of a kind", seen)
	}
}

// TestPlansOfSmallLattices takes thrown segments of a lattice, where nearly all touch, lie over one another or go through one point.
func TestPlansOfSmallLattices(t *testing.T) {
	t.Parallel()
	d := dice(83)
	for i := range 400 {
		segs := d.segs(2+i%8, 1+int64(i%3))
		plan, ok := impl.PlanOf(segs)
		if want := planWanted(segs); !ok || !samePlan(plan, want) {
			t.Fatal(segs, plan, ok, want)
		}
		for v := range plan.Points {
			if got, _ := impl.Around(segs, int64(v)); !slices.Equal(got, aroundWanted(plan, int64(v))) {
				t.Fatal(segs, v, got)
			}
		}
		checkWays(t, segs, plan)
		checkHalves(t, segs, plan)
		checkEdges(t, segs, plan)
	}
}

// TestPlansInAnyOrder asks of the same segments in another order: only the numbers of the segments change.
func TestPlansInAnyOrder(t *testing.T) {
	t.Parallel()
	for _, segs := range rightSegs() {
		plan, _ := impl.PlanOf(segs)
		turned := slices.Clone(segs)
		slices.Reverse(turned)
		other, _ := impl.PlanOf(turned)
		for _, edge := range other.Edges {
			for i, n := range edge.Segs {
				edge.Segs[i] = int64(len(segs)) - 1 - n
			}
			slices.Reverse(edge.Segs)
		}
		if !samePlan(plan, other) {
			t.Error("plan", segs)
		}
		for _, v := range someOf(min(20, len(plan.Points))) {
			got, _ := impl.Around(segs, v)
			if turnedRound, _ := impl.Around(turned, v); !slices.Equal(got, turnedRound) {
				t.Error("around", segs, v)
			}
		}
	}
}

func TestPlansOfOurOwn(t *testing.T) {
	spots := func(n ...int64) []impl.Point {
		var out []impl.Point
		for i := 0; i < len(n); i += 2 {
			out = append(out, point(n[i], n[i+1], 1))
		}
		return out
	}
	chain := []impl.Edge{lineTo(0, 1, 0), lineTo(1, 2, 0, 1), lineTo(2, 3, 0, 1, 2), lineTo(3, 4, 0, 2), lineTo(4, 5, 0)}
	for i, c := range []struct {
		segs []impl.Seg
		want impl.Plan
	}{
		{nil, impl.Plan{}}, {[]impl.Seg{}, impl.Plan{}},
		{[]impl.Seg{seg(0, 0, 1, 2)}, impl.Plan{Points: spots(0, 0, 1, 2), Edges: []impl.Edge{lineTo(0, 1, 0)}}},
		{[]impl.Seg{seg(0, 0, 0, 2)}, impl.Plan{Points: spots(0, 0, 0, 2), Edges: []impl.Edge{lineTo(0, 1, 0)}}},
		{[]impl.Seg{seg(3, 0, 4, 0), seg(0, 0, 1, 0)}, impl.Plan{Points: spots(0, 0, 1, 0, 3, 0, 4, 0), Edges: []impl.Edge{lineTo(0, 1, 1), lineTo(2, 3, 0)}}},
		{repeated(seg(0, 0, 3, 1), 3), impl.Plan{Points: spots(0, 0, 3, 1), Edges: []impl.Edge{lineTo(0, 1, 0, 1, 2)}}},
		// Some begin or end within others, along and upright.
		{[]impl.Seg{seg(0, 0, 9, 0), seg(2, 0, 5, 0), seg(4, 0, 7, 0)}, impl.Plan{Points: spots(0, 0, 2, 0, 4, 0, 5, 0, 7, 0, 9, 0), Edges: chain}},
		{[]impl.Seg{seg(0, 0, 0, 9), seg(0, 2, 0, 5), seg(0, 4, 0, 7)}, impl.Plan{Points: spots(0, 0, 0, 2, 0, 4, 0, 5, 0, 7, 0, 9), Edges: chain}},
		{[]impl.Seg{seg(0, 0, 9, 9), seg(2, 2, 5, 5), seg(4, 4, 7, 7)}, impl.Plan{Points: spots(0, 0, 2, 2, 4, 4, 5, 5, 7, 7, 9, 9), Edges: chain}},
		{[]impl.Seg{seg(0, 0, 4, 0), seg(0, 0, 2, 0), seg(2, 0, 4, 0), seg(0, 0, 4, 0)}, impl.Plan{Points: spots(0, 0, 2, 0, 4, 0), Edges: []impl.Edge{lineTo(0, 1, 0, 1, 3), lineTo(1, 2, 0, 2, 3)}}},
		// One that others only touch at its ends.
		{[]impl.Seg{seg(0, 0, 4, 0), seg(-2, 1, 0, 0), seg(4, 0, 4, 3), seg(4, 0, 9, 0)}, impl.Plan{Points: spots(-2, 1, 0, 0, 4, 0, 4, 3, 9, 0), Edges: []impl.Edge{lineTo(0, 1, 1), lineTo(1, 2, 0), lineTo(2, 3, 2), lineTo(2, 4, 3)}}},
		// One that others touch within.
		{[]impl.Seg{seg(0, 0, 4, 0), seg(1, 0, 1, 3), seg(3, -3, 3, 0)}, impl.Plan{Points: spots(0, 0, 1, 0, 1, 3, 3, -3, 3, 0, 4, 0), Edges: []impl.Edge{lineTo(0, 1, 0), lineTo(1, 2, 1), lineTo(1, 4, 0), lineTo(3, 4, 2), lineTo(4, 5, 0)}}},
		// Points between whole ones, close to one another.
		{[]impl.Seg{seg(0, 0, 2, 1), seg(0, 1, 1, 0), seg(0, 1, 2, 0)}, impl.Plan{
			Points: []impl.Point{point(0, 0, 1), point(0, 1, 1), point(2, 1, 3), point(1, 0, 1), point(2, 1, 2), point(2, 0, 1), point(2, 1, 1)},
			Edges:  []impl.Edge{lineTo(0, 2, 0), lineTo(1, 2, 1), lineTo(1, 4, 2), lineTo(2, 3, 1), lineTo(2, 4, 0), lineTo(4, 5, 2), lineTo(4, 6, 0)},
		}},
	} {
		got, ok := impl.PlanOf(c.segs)
		if !ok || !samePlan(got, c.want) {
			t.Error(i, got, ok)
		}
	}
}

// TestAroundOfOurOwn has ways to all sides from one point, straight down among them.
func TestAroundOfOurOwn(t *testing.T) {
	rose := []impl.Seg{seg(-1, -1, 1, 1), seg(-1, 0, 1, 0), seg(-1, 1, 1, -1), seg(0, -1, 0, 1)}
	steep := []impl.Seg{seg(0, 0, 1, edge), seg(0, 0, 1, edge-1), seg(0, 0, 0, 1), seg(0, -1, 0, 0), seg(-1, -edge, 0, 0), seg(-1, edge, 0, 0), seg(0, 0, 1, -edge), seg(0, 0, 1, 1-edge)}
	for i, c := range []struct {
		segs []impl.Seg
		v    int64
		want []int64
	}{
		{rose, 4, []int64{10, 12, 14, 8, 5, 3, 1, 7}}, {rose, 0, []int64{0}}, {rose, 3, []int64{6}}, {rose, 5, []int64{9}}, {rose, 8, []int64{15}},
		{[]impl.Seg{seg(0, 0, 0, 5)}, 0, []int64{0}}, {[]impl.Seg{seg(0, 0, 0, 5)}, 1, []int64{1}}, {[]impl.Seg{seg(0, 0, 0, 5), seg(0, 5, 0, 9)}, 1, []int64{2, 1}}, {[]impl.Seg{seg(0, 0, 5, 0), seg(5, 0, 9, 0)}, 1, []int64{2, 1}},
		{[]impl.Seg{seg(0, 0, 0, 9), seg(0, 2, 0, 5), seg(0, 2, 3, 2)}, 1, []int64{4, 2, 1}}, {repeated(seg(0, 0, 3, 1), 40), 0, []int64{0}}, {repeated(seg(0, 0, 3, 1), 40), 1, []int64{1}},
		// The points are (-1, -edge), (-1, edge), (0, -1), the middle, (0, 1), (1, -edge), (1, 1-edge), (1, edge-1), (1, edge).
		{steep, 3, []int64{8, 10, 12, 14, 6, 3, 1, 5}},
	} {
		got, ok := impl.Around(c.segs, c.v)
		if !ok || !slices.Equal(got, c.want) || impl.DegreeOf(c.segs, c.v) != int64(len(c.want)) {
			t.Error(i, got, ok, c.want)
		}
	}
	for i, c := range []struct {
		segs []impl.Seg
		n    int64
		want []int64
	}{
		{rose, 0, []int64{0, 7}}, {rose, 1, []int64{1, 6}}, {rose, 2, []int64{2, 5}}, {rose, 3, []int64{3, 4}}, {[]impl.Seg{seg(0, 0, 9, 0), seg(2, 0, 5, 0), seg(4, 0, 7, 0)}, 2, []int64{2, 3}},
		{[]impl.Seg{seg(0, 0, 9, 0), seg(2, 0, 5, 0), seg(4, 0, 7, 0)}, 0, []int64{0, 1, 2, 3, 4}}, {repeated(seg(0, 0, 3, 1), 40), 39, []int64{0}}, {[]impl.Seg{seg(3, 0, 4, 0), seg(0, 0, 1, 0)}, 0, []int64{1}},
	} {
		if got, ok := impl.EdgesOn(c.segs, c.n); !ok || !slices.Equal(got, c.want) {
			t.Error(i, got, ok, c.want)
		}
	}
}

// TestGreatestPlans has 40 segments: all cross all, all through one point, all along one line.
func TestGreatestPlans(t *testing.T) {
	t.Parallel()
	var crossed, through, along []impl.Seg
	for i := range int64(40) {
		crossed = append(crossed, seg(-1000, i*i*i, 1000, -i*i*i+i))
		through = append(through, seg(-100, i-20, 100, 20-i))
		along = append(along, seg(0, -i, 0, i+1))
	}
	for i, segs := range [][]impl.Seg{crossed, through, along} {
		plan, ok := impl.PlanOf(segs)
		if want := planWanted(segs); !ok || !samePlan(plan, want) {
			t.Error(i, len(plan.Points), len(plan.Edges))
		}
		checkWays(t, segs, plan)
		for _, v := range someOf(len(plan.Points)) {
			if got, _ := impl.Around(segs, v); !slices.Equal(got, aroundWanted(plan, v)) {
				t.Error("around", i, v, got)
			}
		}
	}
	if plan, _ := impl.PlanOf(crossed); len(plan.Points) < 600 || len(plan.Edges) < 1200 {
		t.Error("too few", len(plan.Points), len(plan.Edges))
	}
	if got := impl.DegreeOf(through, 40); got != 80 {
		t.Error("all through one", got)
	}
	if plan, _ := impl.PlanOf(along); len(plan.Points) != 80 || len(plan.Edges) != 79 || len(plan.Edges[39].Segs) != 40 || !slices.Equal(plan.Edges[0].Segs, []int64{39}) {
		t.Error("all along one", plan)
	}
}

func TestPlansOfWrongOnes(t *testing.T) {
	refused := func(what string, segs []impl.Seg, n int64) {
		if got, ok := impl.Around(segs, n); ok || len(got) != 0 || impl.DegreeOf(segs, n) != -1 {
			t.Error("around", what, n, got, ok)
		}
	}
	refusedSeg := func(what string, segs []impl.Seg, n int64) {
		if got, ok := impl.EdgesOn(segs, n); ok || len(got) != 0 {
			t.Error("edges", what, n, got, ok)
		}
	}
	for _, wrong := range wrongRows() {
		if got, ok := impl.PlanOf(wrong); ok || !samePlan(got, impl.Plan{}) {
			t.Error("plan", wrong, got, ok)
		}
		for _, n := range []int64{-1, 0, 1, 2, 39, 40} {
			refused("wrong segments", wrong, n)
			refusedSeg("wrong segments", wrong, n)
		}
	}
	far := []int64{math.MinInt64, -1 << 32, -2, -1, 1 << 32, 1<<32 + 1, math.MaxInt64}
	for _, segs := range ourSegs() {
		plan, _ := impl.PlanOf(segs)
		for _, n := range far {
			refused("far out", segs, n)
			refusedSeg("far out", segs, n)
		}
		refused("the next one", segs, int64(len(plan.Points)))
		refusedSeg("the next one", segs, int64(len(segs)))
		if last := int64(len(plan.Points)) - 1; last >= 0 {
			if got, ok := impl.Around(segs, last); !ok || len(got) == 0 {
				t.Error("the last point", segs, got)
			}
			if got, ok := impl.EdgesOn(segs, int64(len(segs))-1); !ok || len(got) == 0 {
				t.Error("the last segment", segs, got)
			}
		}
	}
}

func copyPlan(p impl.Plan) impl.Plan {
	out := impl.Plan{Points: slices.Clone(p.Points)}
	for _, edge := range p.Edges {
		out.Edges = append(out.Edges, lineTo(edge.From, edge.To, slices.Clone(edge.Segs)...))
	}
	return out
}

// scribbleEdges writes over one list of Segs, and the room behind it, after the other, and looks whether another one changes.
func scribbleEdges(t *testing.T, edges []impl.Edge) {
	t.Helper()
	kept := copyPlan(impl.Plan{Edges: edges}).Edges
	for i, edge := range edges {
		scribble(edge.Segs)
		if len(edges) < 100 && !slices.EqualFunc(edges[i+1:], kept[i+1:], sameEdge) {
			t.Fatal("two lists share", kept)
		}
	}
}

func TestPlansLeaveMemoryAlone(t *testing.T) {
	for _, segs := range slices.Concat(ourSegs(), wrongRows()) {
		ours, row := roomySegs(segs)
		was := slices.Clone(row)
		for range 2 {
			plan, ok := impl.PlanOf(ours)
			wanted, wantedOk := impl.PlanOf(segs)
			halves, _ := impl.Around(ours, 1)
			wantedHalves, _ := impl.Around(segs, 1)
			edges, _ := impl.EdgesOn(ours, 1)
			wantedEdges, _ := impl.EdgesOn(segs, 1)
			if ok != wantedOk || !samePlan(plan, wanted) || !slices.Equal(halves, wantedHalves) || !slices.Equal(edges, wantedEdges) || impl.DegreeOf(ours, 1) != impl.DegreeOf(segs, 1) {
				t.Error("another answer", segs)
			}
			scribbleEdges(t, plan.Edges)
			scribble(plan.Edges)
			scribble(plan.Points)
			scribble(halves)
			scribble(edges)
			if !slices.Equal(row, was) {
				t.Fatal("written into", segs)
			}
		}
	}
}
