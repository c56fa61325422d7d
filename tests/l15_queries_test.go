package tests

import (
	"math/big"
	"runtime"
	"slices"
	"testing"

	"loop.example/g00225/impl"
)

// itemsOf are segments by their numbers and one more, as trees keep them.
func itemsOf(segs []impl.Seg) []impl.Item {
	var out []impl.Item
	for i, s := range segs {
		out = append(out, item(int64(i+1), s))
	}
	return out
}

// farWanted is the square of the distance to the nearest point of a segment: the foot of what stands square on it, or an end.
func farWanted(s impl.Seg, p impl.Spot) *big.Rat {
	a, b, at := placeAt(s.A), placeAt(s.B), placeAt(p)
	u := new(big.Rat).Quo(at.minus(a).dot(b.minus(a)), b.minus(a).dot(b.minus(a)))
	if u.Sign() < 0 {
		u = new(big.Rat)
	}
	if u.Cmp(big.NewRat(1, 1)) > 0 {
		u = big.NewRat(1, 1)
	}
	return at.far2(along(s, u))
}

// checkNearestSeg asks for the nearest one, and tells how many are as near.
func checkNearestSeg(t *testing.T, segs []impl.Seg, p impl.Spot) int {
	t.Helper()
	want, as := -1, 0
	var least *big.Rat
	for i, s := range segs {
		far := farWanted(s, p)
		if want < 0 || far.Cmp(least) < 0 {
			want, least, as = i, far, 0
		}
		if far.Cmp(least) == 0 {
			as++
		}
	}
	n, far, ok := impl.NearestSeg(segs, p)
	if !ok || n != int64(want) || ratOf(far).Cmp(least) != 0 || !impl.RatioOk(far) {
		t.Fatal("nearest", segs, p, n, far, ok, want, least)
	}
	return as
}

func TestNearestSegsOfOurOwn(t *testing.T) {
	segs := []impl.Seg{seg(10, 0, 20, 0), seg(10, 0, 10, 9), seg(-10, -5, -10, 5), seg(10, 0, 20, 0), seg(0, 100, 1, 101)}
	for i, c := range []struct {
		segs []impl.Seg
		p    impl.Spot
		want int64
		far  string
	}{
		// On one, at an end of one and of several, beside the middle, past an end.
		{segs, spot(15, 0), 0, "0"}, {segs, spot(20, 0), 0, "0"}, {segs, spot(10, 5), 1, "0"}, {segs, spot(10, 0), 0, "0"}, {segs, spot(10, 9), 1, "0"}, {segs, spot(15, 1), 0, "1"}, {segs, spot(15, -1), 0, "1"}, {segs, spot(12, 2), 0, "4"}, {segs, spot(12, 3), 1, "4"}, {segs, spot(30, 0), 0, "100"}, {segs, spot(10, 10), 1, "1"},
		// As near to those on the left as to those on the right.
		{segs, spot(0, 0), 0, "100"}, {segs, spot(0, 1), 1, "100"}, {segs, spot(-1, 1), 2, "81"}, {segs, spot(1, 1), 1, "81"}, {segs, spot(0, 100), 4, "0"}, {segs, spot(1, 100), 4, "1/2"}, {segs, spot(edge, edge), 4, "1999796010202"}, {segs, spot(edge, -edge), 0, "1999960000400"},
		// One alone, the same one twice, and as near in the other order.
		{segs[:1], spot(-edge, 7), 0, "1000020000149"}, {repeated(seg(0, 0, 3, 1), 40), spot(1, 1), 0, "2/5"}, {[]impl.Seg{segs[2], segs[0]}, spot(0, 0), 0, "100"}, {[]impl.Seg{segs[4], segs[2], segs[1]}, spot(0, 1), 1, "100"}, {[]impl.Seg{seg(5, 5, 9, 9), seg(0, 0, 1, 0), seg(0, 0, 1, 0)}, spot(0, 0), 1, "0"},
		// Distances that differ by less than a float tells.
		{[]impl.Seg{seg(-edge, -edge, edge, edge), seg(-edge, -edge, edge-1, edge)}, spot(edge-1, edge-1), 0, "0"}, {[]impl.Seg{seg(-edge, -edge, edge, edge-1), seg(-edge, -edge, edge, edge)}, spot(edge, -edge), 0, "15999984000004000000000000/7999996000001"}, {[]impl.Seg{seg(-edge, -edge, edge, edge), seg(-edge, -edge, edge, edge-1)}, spot(edge, -edge), 1, "15999984000004000000000000/7999996000001"},
	} {
		checkNearestSeg(t, c.segs, c.p)
		if n, far, ok := impl.NearestSeg(c.segs, c.p); !ok || n != c.want || impl.RatioText(far) != c.far {
			t.Error(i, n, impl.RatioText(far), ok)
		}
	}
}

func TestNearestSegs(t *testing.T) {
	t.Parallel()
	d := dice(431)
	several := 0
	for _, segs := range rightSegs() {
		if len(segs) == 0 {
			continue
		}
		size := d.size()
		for _, p := range []impl.Spot{segs[len(segs)-1].A, segs[len(segs)/2].B, d.spot(size), d.spot(size), d.spot(3), d.spot(edge)} {
			if checkNearestSeg(t, segs, p) > 1 {
				several++
			}
		}
	}
	if several < 200 {
		t.Error("too few of a kind", several)
	}
}

// TestQueriesAndTrees asks trees the same.
func TestQueriesAndTrees(t *testing.T) {
	t.Parallel()
	d := dice(433)
	for i := range 40 {
		size := d.size()
		segs := d.segs(1+i%20, size)
		q := filled(t, 1+int64(i%4), int64(i%6), segs...)
		for range 12 {
			p, by := d.spot(size), d.spot(size)
			n, far, ok := impl.NearestSeg(segs, p)
			if id, treeFar, treeOk := impl.QuadNearest(q, p); id != n+1 || treeFar != far || treeOk != ok {
				t.Fatal("nearest", segs, p, n, id)
			}
			high := spot(min(edge, p.X+max(by.X, 0)), min(edge, p.Y+max(by.Y, 0)))
			window, ok := impl.WindowSegs(segs, p, high)
			ids, treeOk := impl.QuadWindow(q, p, high)
			for k := range ids {
				ids[k]--
			}
			if ok != treeOk || !slices.Equal(window, ids) {
				t.Fatal("window", segs, p, high, window, ids)
			}
		}
	}
}

// checkWindowSegs clips each segment by the box.
func checkWindowSegs(t *testing.T, segs []impl.Seg, low, high impl.Spot) []int64 {
	t.Helper()
	var want []int64
	for i, s := range segs {
		if !inBox(s, placeAt(low), placeAt(high)).empty {
			want = append(want, int64(i))
		}
	}
	got, ok := impl.WindowSegs(segs, low, high)
	if !ok || !slices.Equal(got, want) {
		t.Fatal("window", segs, low, high, got, ok, want)
	}
	return got
}

func TestWindowSegsOfOurOwn(t *testing.T) {
	segs := []impl.Seg{seg(0, 0, 4, 2), seg(0, 0, 0, 9), seg(-9, 5, 9, 5), seg(20, 20, 30, 10), seg(-edge, -edge, -edge, edge), seg(0, 0, 4, 2)}
	for i, c := range []struct {
		segs      []impl.Seg
		low, high impl.Spot
		want      []int64
	}{
		{segs, spot(-edge, -edge), spot(edge, edge), []int64{0, 1, 2, 3, 4, 5}}, {nil, spot(-edge, -edge), spot(edge, edge), nil}, {nil, spot(0, 0), spot(0, 0), nil}, {segs[:1], spot(-edge, -edge), spot(edge, edge), []int64{0}}, {segs[3:4], spot(-9, -9), spot(9, 9), nil}, {repeated(segs[0], 40), spot(1, -9), spot(1, 9), someNumbers(40)},
		// Spots: at an end, on one, where two cross, off all.
		{segs, spot(0, 0), spot(0, 0), []int64{0, 1, 5}}, {segs, spot(2, 1), spot(2, 1), []int64{0, 5}}, {segs, spot(2, 2), spot(2, 2), nil}, {segs, spot(0, 5), spot(0, 5), []int64{1, 2}}, {segs, spot(-edge, edge), spot(-edge, edge), []int64{4}}, {segs, spot(edge, edge), spot(edge, edge), nil},
		// Windows that only touch, by an end, a side or a corner, and ones that just do not.
		{segs, spot(4, 2), spot(9, 4), []int64{0, 5}}, {segs, spot(5, 2), spot(9, 4), nil}, {segs, spot(1, 5), spot(3, 7), []int64{2}}, {segs, spot(1, 6), spot(3, 7), nil}, {segs, spot(-5, 1), spot(0, 3), []int64{1}}, {segs, spot(-5, 1), spot(-1, 3), nil}, {segs, spot(24, 14), spot(25, 15), []int64{3}}, {segs, spot(23, 14), spot(24, 15), nil}, {segs, spot(25, 15), spot(40, 40), []int64{3}}, {segs, spot(26, 15), spot(40, 40), nil},
		// Windows that are a line, upright and level, and one that lies along a segment.
		{segs, spot(-9, 9), spot(9, 9), []int64{1}}, {segs, spot(-9, 10), spot(9, 10), nil}, {segs, spot(3, -5), spot(3, 5), []int64{0, 2, 5}}, {segs, spot(3, 2), spot(3, 4), nil}, {segs, spot(-edge, edge), spot(edge, edge), []int64{4}}, {segs, spot(edge, -edge), spot(edge, edge), nil}, {segs, spot(1, 5), spot(2, 5), []int64{2}}, {segs, spot(0, 7), spot(0, 8), []int64{1}},
	} {
		if got := checkWindowSegs(t, c.segs, c.low, c.high); !slices.Equal(got, c.want) {
			t.Error(i, got, c.want)
		}
	}
}

// someNumbers are those below n.
func someNumbers(n int64) []int64 {
	var out []int64
	for i := range n {
		out = append(out, i)
	}
	return out
}

// box is one with these corners.
func box(a, b impl.Spot) (impl.Spot, impl.Spot) {
	return spot(min(a.X, b.X), min(a.Y, b.Y)), spot(max(a.X, b.X), max(a.Y, b.Y))
}

func TestWindowSegs(t *testing.T) {
	t.Parallel()
	d := dice(439)
	seen := map[string]int{}
	for _, segs := range rightSegs() {
		size := d.size()
		for k := range 6 {
			low, high := box(d.spot(size), d.spot(size))
			switch {
			case k == 0 && len(segs) > 0:
				low, high = box(segs[0].B, d.spot(size))
			case k == 1:
				high.X = low.X
			case k == 2:
				high.Y = low.Y
			case k == 3 && len(segs) > 0:
				low, high = segs[len(segs)/2].A, segs[len(segs)/2].A
			case k == 4:
				high = low
			}
			got := checkWindowSegs(t, segs, low, high)
			for kind, is := range map[string]bool{"all": len(got) == len(segs) && len(got) > 0, "some": 0 < len(got) && len(got) < len(segs), "none": len(got) == 0, "on a spot": low == high && len(got) > 0, "on a line": low != high && (low.X == high.X || low.Y == high.Y) && len(got) > 0} {
				if is {
					seen[kind]++
				}
			}
		}
	}
	for _, kind := range []string{"all", "some", "none", "on a spot", "on a line"} {
		if seen[kind] < 25 {
			t.Error("too few of a kind", kind, seen)
		}
	}
}

func TestSameFaceOfOurOwn(t *testing.T) {
	square4, nested := segsWanted(square(0, 0, 4)), squares(3, 2)
	// A square with a slit from its left side, one with a loose piece, one that an upright wall parts.
	slit := append(segsWanted(square(0, 0, 4)), seg(0, 2, 3, 2))
	loose := append(segsWanted(square(0, 0, 4)), seg(1, 2, 3, 2))
	parted := append(segsWanted(square(0, 0, 4)), seg(2, 0, 2, 4))
	bow := []impl.Seg{seg(0, 0, 4, 4), seg(0, 4, 4, 0), seg(0, 0, 0, 4), seg(4, 0, 4, 4)}
	for i, c := range []struct {
		segs []impl.Seg
		p, q impl.Point
		want bool
	}{
		{nil, point(0, 0, 1), point(0, 0, 1), true}, {nil, point(0, 0, 1), point(7, -3, 5), true}, {[]impl.Seg{}, point(edge, edge, 1), point(-edge, 3, 7), true},
		// One segment: all that is not on it is one face.
		{repeated(seg(0, 0, 4, 0), 1), point(2, 1, 1), point(2, -1, 1), true}, {repeated(seg(0, 0, 4, 0), 2), point(2, 1, 1), point(2, -1, 1), true}, {repeated(seg(0, 0, 4, 0), 1), point(2, 0, 1), point(2, -1, 1), false}, {repeated(seg(0, 0, 4, 0), 1), point(2, 1, 1), point(4, 0, 1), false}, {repeated(seg(0, 0, 4, 0), 1), point(5, 0, 1), point(-1, 0, 1), true}, {repeated(seg(0, 0, 4, 0), 1), point(2, 0, 1), point(2, 0, 1), false},
		// In one face, in two, on edges and on points, in the face without bounds.
		{square4, point(1, 1, 1), point(3, 3, 1), true}, {square4, point(1, 1, 1), point(1, 1, 1), true}, {square4, point(1, 1, 1), point(5, 1, 1), false}, {square4, point(5, 1, 1), point(1, 1, 1), false}, {square4, point(5, 1, 1), point(-9, 1, 1), true}, {square4, point(2, 9, 1), point(2, -9, 1), true}, {square4, point(2, 0, 1), point(2, 0, 1), false}, {square4, point(2, 0, 1), point(3, 0, 1), false}, {square4, point(2, 0, 1), point(1, 1, 1), false}, {square4, point(1, 1, 1), point(2, 0, 1), false}, {square4, point(0, 0, 1), point(0, 0, 1), false}, {square4, point(0, 0, 1), point(1, 1, 1), false}, {square4, point(4, 4, 1), point(0, 0, 1), false}, {square4, point(4, 4, 1), point(5, 5, 1), false}, {square4, point(1, 1, 2000000), point(7999999, 7999999, 2000000), true}, {square4, point(1, 1, 2000000), point(-1, 1, 2000000), false},
		{nested, point(1, 1, 1), point(11, 11, 1), true}, {nested, point(1, 1, 1), point(3, 3, 1), false}, {nested, point(3, 3, 1), point(9, 3, 1), true}, {nested, point(5, 5, 1), point(7, 7, 1), true}, {nested, point(5, 5, 1), point(-1, -1, 1), false},
		{slit, point(1, 1, 1), point(1, 3, 1), true}, {slit, point(1, 1, 1), point(1, 2, 1), false}, {slit, point(1, 1, 1), point(3, 2, 1), false}, {slit, point(7, 2, 2), point(1, 3, 1), true}, {loose, point(1, 1, 1), point(1, 3, 1), true}, {loose, point(1, 1, 1), point(-1, 3, 1), false}, {loose, point(2, 2, 1), point(2, 2, 1), false},
		{parted, point(1, 1, 1), point(3, 1, 1), false}, {parted, point(1, 1, 1), point(1, 3, 1), true}, {parted, point(2, 5, 1), point(2, -1, 1), true}, {parted, point(2, 2, 1), point(1, 1, 1), false}, {bow, point(1, 2, 1), point(3, 2, 1), false}, {bow, point(2, 1, 1), point(2, 3, 1), true}, {bow, point(2, 2, 1), point(2, 3, 1), false}, {bow, point(1, 2, 1), point(1, 5, 2), true},
	} {
		for _, turned := range []bool{false, true} {
			p, q := c.p, c.q
			if turned {
				p, q = q, p
			}
			if got := impl.SameFace(c.segs, p, q); got != c.want {
				t.Error(i, turned, got, c.want)
			}
		}
	}
}

// checkSameFace asks of points by pairs, and tells how often they lay so.
func checkSameFace(t *testing.T, segs []impl.Seg, points []impl.Point, seen map[string]int) {
	t.Helper()
	f := facesWanted(segs)
	var cells []impl.Cell
	for _, p := range points {
		cells = append(cells, f.cellWanted(placeOf(p)))
	}
	for i, p := range points {
		for _, k := range []int{i, (i + 1) % len(points), (i + 5) % len(points)} {
			want := cells[i].Kind == impl.CkFace && cells[i] == cells[k]
			if got := impl.SameFace(segs, p, points[k]); got != want {
				t.Fatal(segs, p, points[k], got, cells[i], cells[k])
			}
			for kind, is := range map[string]bool{
				"one face that is bounded": want && i != k && cells[i].Id > 0, "the face without bounds": want && i != k && cells[i].Id == 0, "two faces": !want && cells[i].Kind == impl.CkFace && cells[k].Kind == impl.CkFace, "the same number, not faces": !want && i != k && cells[i] == cells[k],
				"a face and an edge of its number": cells[i].Kind != cells[k].Kind && cells[i].Id == cells[k].Id, "on a point": cells[i].Kind == impl.CkVertex,
			} {
				if is {
					seen[kind]++
				}
			}
		}
	}
}

func TestSameFace(t *testing.T) {
	t.Parallel()
	d := dice(443)
	seen := map[string]int{}
	rows := slices.Concat(ourSegs(), [][]impl.Seg{squares(6, 2), squares(10, 1), d.crumbs(4), d.crumbs(6), d.shortSegs(30, 4), d.needle()})
	for i := range 60 {
		rows = append(rows, d.segs(2+i%8, 1+int64(i%4)), d.shortSegs(4+i%12, 2+int64(i%3)))
	}
	for _, segs := range rows {
		if countsOf(segs)[1] > 80 {
			continue
		}
		near := pointsNear(segs)
		var points []impl.Point
		for _, i := range pickedOf(len(near), 8) {
			points = append(points, near[i])
		}
		f := facesWanted(segs)
		for _, c := range pickedOf(len(f.cycles), 6) {
			round := f.cycles[c]
			for _, h := range []int64{round[0], round[len(round)/2]} {
				if p, told := pointAt(f.within(h)); told {
					points = append(points, p)
				}
			}
			// Two points of one edge lie in one cell, which is no face.
			first, last := placeOf(f.plan.Points[f.dcel.Halves[round[0]].From]), placeOf(f.plan.Points[f.dcel.Halves[round[0]].To])
			middle := halfWay(first, last)
			for _, at := range []place{middle, halfWay(first, middle)} {
				if p, told := pointAt(at); told {
					points = append(points, p)
				}
			}
		}
		for range 4 {
			s := d.spot(3)
			points = append(points, point(2*s.X+1, 2*s.Y+1, 2))
		}
		checkSameFace(t, segs, points, seen)
	}
	for _, kind := range []string{"one face that is bounded", "the face without bounds", "two faces", "the same number, not faces", "a face and an edge of its number", "on a point"} {
		if seen[kind] < 30 {
			t.Error("too few of a kind", kind, seen)
		}
	}
}

// freeWanted takes a way step by step, and each spot as a step of its own.
func freeWanted(segs []impl.Seg, path []impl.Spot) bool {
	for i, p := range path {
		for _, s := range segs {
			if touch(p, p, s.A, s.B) || i > 0 && touch(path[i-1], p, s.A, s.B) {
				return false
			}
		}
	}
	return true
}

// way is a row of spots.
func way(n ...int64) []impl.Spot { return ring(n...).Spots }

func TestFreeOfOurOwn(t *testing.T) {
	square4 := segsWanted(square(0, 0, 4))
	one := []impl.Seg{seg(0, 0, 4, 0)}
	gap := []impl.Seg{seg(0, 0, 0, 4), seg(0, 6, 0, 9)}
	slanted := []impl.Seg{seg(0, 0, 6, 4)}
	for i, c := range []struct {
		segs []impl.Seg
		path []impl.Spot
		want bool
	}{
		// One spot: off all, on one, at an end, where two meet.
		{nil, way(0, 0), true}, {one, way(0, 1), true}, {one, way(2, 0), false}, {one, way(0, 0), false}, {one, way(4, 0), false}, {one, way(5, 0), true}, {one, way(-1, 0), true}, {square4, way(2, 2), true}, {square4, way(9, 9), true}, {square4, way(4, 1), false}, {square4, way(4, 4), false}, {slanted, way(3, 2), false}, {slanted, way(2, 1), true}, {slanted, way(4, 3), true}, {slanted, way(9, 6), true}, {slanted, way(-3, -2), true}, {[]impl.Seg{seg(0, 0, 0, 9)}, way(0, 5), false}, {[]impl.Seg{seg(0, 0, 0, 9)}, way(0, 10), true},
		// No spot, as many as there may be, and one more.
		{nil, nil, false}, {nil, []impl.Spot{}, false}, {one, nil, false}, {nil, slices.Repeat(way(1, 1), 12), true}, {nil, slices.Repeat(way(1, 1), 13), false}, {square4, slices.Repeat(way(1, 1, 3, 3), 6), true}, {square4, append(slices.Repeat(way(1, 1, 3, 3), 6), spot(1, 1)), false}, {square4, append(slices.Repeat(way(1, 1), 11), spot(5, 1)), false}, {square4, append(slices.Repeat(way(1, 1), 11), spot(4, 1)), false},
		// Ways that stay at a spot, at first, on the way and at last.
		{one, way(0, 1, 0, 1), true}, {one, way(2, 0, 2, 0), false}, {one, way(0, 1, 0, 1, 3, 1), true}, {one, way(0, 1, 3, 1, 3, 1), true}, {one, way(0, 1, 2, 1, 2, 1, 3, 1), true}, {one, way(0, 1, 2, 0, 2, 0, 2, 1), false}, {one, way(4, 0, 4, 0, 9, 9), false}, {one, way(9, 9, 4, 0, 4, 0), false},
		// Ways that cross, at the first step, at the last one, and twice.
		{one, way(2, 1, 2, -1), false}, {one, way(2, 1, 9, 1, 9, 2, 3, 2, 3, -1), false}, {one, way(2, 1, 2, -1, 3, -1, 3, 1), false}, {square4, way(1, 1, 9, 1), false}, {square4, way(-1, 2, 5, 2), false}, {slanted, way(0, 4, 6, 0), false},
		// Ways that only touch: an end with the middle of a step, an end with an end, the middle with an end, at a spot on the way.
		{one, way(4, -1, 4, 1), false}, {one, way(3, -1, 5, 1), false}, {one, way(4, 0, 5, 1), false}, {one, way(5, 1, 4, 0), false}, {one, way(2, 0, 2, 5), false}, {one, way(2, 5, 2, 0), false}, {one, way(1, 1, 2, 0, 3, 1), false}, {one, way(-1, -1, 0, 0, 1, 1), false}, {one, way(5, -1, 5, 1), true}, {one, way(3, 1, 5, -1), false}, {one, way(4, 1, 6, -1), true}, {square4, way(-1, 1, 1, -1), false}, {square4, way(-2, 1, 1, -2), true}, {square4, way(-2, 2, 2, -2), false},
		// Ways that run along one: over it, in it, from its end on, past it on the same line, beside it.
		{one, way(1, 0, 3, 0), false}, {one, way(-5, 0, 9, 0), false}, {one, way(3, 0, 9, 0), false}, {one, way(4, 0, 9, 0), false}, {one, way(9, 0, 4, 0), false}, {one, way(5, 0, 9, 0), true}, {one, way(-5, 0, -1, 0), true}, {one, way(-1, 0, 5, 0), false}, {one, way(0, 1, 4, 1), true}, {slanted, way(-3, -2, 9, 6), false}, {slanted, way(9, 6, 12, 8), true}, {slanted, way(6, 4, 9, 6), false}, {[]impl.Seg{seg(0, 0, 0, 4)}, way(0, 5, 0, 9), true}, {[]impl.Seg{seg(0, 0, 0, 4)}, way(0, 9, 0, 4), false}, {[]impl.Seg{seg(0, 0, 0, 4)}, way(0, -1, 0, 9), false},
		// Ways through a gap, round a corner, back where they came from.
		{gap, way(-1, 5, 1, 5), true}, {gap, way(-1, 4, 1, 6), true}, {gap, way(-1, 3, 1, 5), false}, {gap, way(-1, 5, 1, 5, 1, 9, 1, 5, -1, 5), true}, {gap, way(0, 5), true}, {gap, way(0, 5, 0, 6), false}, {square4, way(-1, -1, -1, 5, 5, 5, 5, -1, -1, -1), true}, {square4, way(-1, -1, -1, 5, 5, 5, 5, -1, 0, -1, 0, 1), false}, {square4, way(1, 1, 3, 1, 3, 3, 1, 3, 1, 1), true},
		// Ones that pass by at next to nothing, and ones that just do not.
		{[]impl.Seg{seg(-edge, -edge, edge, edge)}, way(1-edge, -edge, edge, edge-1), true}, {[]impl.Seg{seg(-edge, -edge, edge-1, edge-1)}, way(edge-1, edge, edge, edge-1), true}, {[]impl.Seg{seg(-edge, -edge, edge-1, edge-1)}, way(edge-2, edge, edge, edge-2), false}, {[]impl.Seg{seg(-edge, -edge, 1, 0)}, way(-edge, 1-edge, edge, edge), true}, {[]impl.Seg{seg(-edge, 0, 0, 0)}, way(1, -edge, 0, edge), true}, {[]impl.Seg{seg(-edge, 0, 1, 0)}, way(1, -edge, 0, edge), false}, {[]impl.Seg{seg(-edge, 0, 0, 0)}, way(1, -edge, -1, edge), false}, {[]impl.Seg{seg(-edge, 0, 0, 0)}, way(1, 1-edge, -1, edge), true}, {[]impl.Seg{seg(-edge, 0, 0, 0)}, way(1, -edge, -1, edge-1), false},
		// The last one of many alone is met.
		{append(repeated(seg(50, 50, 51, 51), 39), seg(0, 0, 4, 0)), way(1, 1, 1, -1), false}, {append(repeated(seg(50, 50, 51, 51), 39), seg(0, 0, 4, 0)), way(1, 1, 1, 2), true},
	} {
		if got := impl.Free(c.segs, c.path); got != c.want {
			t.Error(i, c.segs, c.path, got)
		}
		if len(c.path) > 0 && len(c.path) <= 12 && freeWanted(c.segs, c.path) != c.want {
			t.Error("worked out another way", i, c.segs, c.path, c.want)
		}
		back := slices.Clone(c.path)
		slices.Reverse(back)
		if got := impl.Free(c.segs, back); got != c.want {
			t.Error("back", i, c.segs, back, got)
		}
	}
}

// path throws a way that stays, goes to and fro, and often comes upon spots of the segments.
func (d *dice) path(segs []impl.Seg, n int, size int64) []impl.Spot {
	out := []impl.Spot{d.spot(size)}
	for len(out) < n {
		last := out[len(out)-1]
		next := d.spot(size)
		switch d.word() % 8 {
		case 0:
			next = last
		case 1:
			if len(segs) > 0 && n%3 == 0 {
				next = segs[d.word()%uint64(len(segs))].B
			}
		case 2, 3, 4:
			next = spot(max(-edge, min(edge, last.X+d.coord(1))), max(-edge, min(edge, last.Y+d.coord(2))))
		}
		out = append(out, next)
	}
	return out
}

func TestFree(t *testing.T) {
	t.Parallel()
	d := dice(449)
	seen := map[string]int{}
	rows := rightSegs()
	for i := range 400 {
		rows = append(rows, d.segs(1+i%6, d.size()), d.shortSegs(2+i%9, 3))
	}
	for i, segs := range rows {
		for k := range 4 {
			path := d.path(segs, 1+(i+k*5)%12, d.size())
			want := freeWanted(segs, path)
			if got := impl.Free(segs, path); got != want {
				t.Fatal(segs, path, got, want)
			}
			cut := path[:1+len(path)/2]
			if want && !impl.Free(segs, cut) {
				t.Fatal("a part of a free way", segs, path)
			}
			for kind, is := range map[string]bool{"free": want && len(path) > 1 && len(segs) > 0, "one free spot": want && len(path) == 1 && len(segs) > 0, "met": !want, "met by one step of many": !want && len(path) > 6 && freeWanted(segs, path[:len(path)-1]), "free for long": want && len(path) > 6 && len(segs) > 1} {
				if is {
					seen[kind]++
				}
			}
		}
	}
	for _, kind := range []string{"free", "one free spot", "met", "met by one step of many", "free for long"} {
		if seen[kind] < 25 {
			t.Error("too few of a kind", kind, seen)
		}
	}
}

// TestFreeOfAllSteps takes all steps of a lattice by all segments of it.
func TestFreeOfAllSteps(t *testing.T) {
	t.Parallel()
	for _, s := range gridSegs(4, 1, spot(0, 0)) {
		for i := range int64(16) {
			for j := range int64(16) {
				path := way(i/4, i%4, j/4, j%4)
				if got, want := impl.Free([]impl.Seg{s}, path), freeWanted([]impl.Seg{s}, path); got != want {
					t.Fatal(s, path, got)
				}
			}
		}
	}
}

func TestQueriesOfWrongOnes(t *testing.T) {
	refuses := func(segs []impl.Seg, p, low, high impl.Spot, why string) {
		t.Helper()
		if n, far, ok := impl.NearestSeg(segs, p); ok || n != 0 || far != (impl.Ratio{}) {
			t.Error("nearest", why, segs, p, n, far, ok)
		}
		if got, ok := impl.WindowSegs(segs, low, high); ok || len(got) != 0 {
			t.Error("window", why, segs, low, high, got, ok)
		}
	}
	for _, wrong := range wrongRows() {
		refuses(wrong, spot(3, 3), spot(-9, -9), spot(9, 9), "segments")
		refuses(wrong, spot(edge+1, 3), spot(9, 9), spot(-9, -9), "all at once")
		if impl.SameFace(wrong, point(90, 7, 1), point(90, 7, 1)) || impl.SameFace(wrong, impl.Point{}, impl.Point{}) || impl.Free(wrong, way(90, 7)) || impl.Free(wrong, way(90, 7, 91, 8)) || impl.Free(wrong, nil) {
			t.Error("segments", wrong)
		}
	}
	for _, segs := range [][]impl.Seg{nil, {seg(0, 0, 4, 0)}, segsWanted(square(0, 0, 4)), repeated(seg(0, 0, 4, 0), 40)} {
		for _, wrong := range wrongSpots() {
			refuses(segs, wrong, wrong, spot(edge, edge), "spots")
			refuses(segs, wrong, spot(-edge, -edge), wrong, "spots")
			refuses(segs, wrong, wrong, wrong, "spots")
			for at := range 12 {
				if path := slices.Repeat(way(1, 1), 12); !impl.Free(segs, path) || impl.Free(segs, slices.Replace(path, at, at+1, wrong)) || impl.Free(segs, []impl.Spot{wrong}) {
					t.Error("way", segs, wrong, at)
				}
			}
		}
		for _, wrong := range [][2]impl.Spot{{spot(3, 0), spot(2, 3)}, {spot(0, 3), spot(3, 2)}, {spot(3, 3), spot(0, 0)}, {spot(1, 0), spot(0, 0)}, {spot(0, 1), spot(0, 0)}, {spot(edge, edge), spot(-edge, -edge)}} {
			if got, ok := impl.WindowSegs(segs, wrong[0], wrong[1]); ok || len(got) != 0 {
				t.Error("no box", segs, wrong, got, ok)
			}
		}
		for _, wrong := range wrongPoints() {
			for _, other := range []impl.Point{point(90, 7, 1), wrong, {}, impl.PointOf(spot(0, 0))} {
				if impl.SameFace(segs, wrong, other) || impl.SameFace(segs, other, wrong) {
					t.Error("point", segs, wrong, other)
				}
			}
		}
		if !impl.SameFace(segs, point(90, 7, 1), point(-90, 7, 1)) {
			t.Error("right ones", segs)
		}
	}
	for _, none := range [][]impl.Seg{nil, {}} {
		if n, far, ok := impl.NearestSeg(none, spot(0, 0)); ok || n != 0 || far != (impl.Ratio{}) {
			t.Error("none is nearest", n, far, ok)
		}
		if got, ok := impl.WindowSegs(none, spot(0, 0), spot(0, 0)); !ok || len(got) != 0 {
			t.Error("none is in the window", got, ok)
		}
	}
}

func TestQueryConstants(t *testing.T) {
	if impl.MaxPath != 12 {
		t.Error("limits")
	}
}

// wider is a box that is greater by one on all sides, if there is one.
func wider(low, high impl.Spot) (impl.Spot, impl.Spot, bool) {
	low, high = spot(low.X-1, low.Y-1), spot(high.X+1, high.Y+1)
	return low, high, impl.SpotOk(low) && impl.SpotOk(high)
}

// checkFreeWay asks whether the spots of a free way, and points half way between two, lie in one face.
func checkFreeWay(t *testing.T, segs []impl.Seg, path []impl.Spot) {
	t.Helper()
	first := impl.PointOf(path[0])
	for i, next := range path {
		points := []impl.Point{impl.PointOf(next)}
		if i > 0 {
			middle, ok := impl.Middle(impl.PointOf(path[i-1]), points[0])
			if !ok {
				t.Fatal("no middle", path)
			}
			points = append(points, middle)
		}
		for _, p := range points {
			if !impl.SameFace(segs, first, p) {
				t.Fatal("a free way to another face", segs, path, p)
			}
		}
	}
}

// TestPromise15 leans on nothing but the answers.
func TestPromise15(t *testing.T) {
	t.Parallel()
	d := dice(457)
	ways, more := 0, 0
	rows := slices.Concat(rightSegs(), [][]impl.Seg{squares(4, 3), squares(6, 2), d.crumbs(4), d.crumbs(6)})
	for i := range 150 {
		rows = append(rows, d.segs(3+i%9, 4+int64(i%5)), d.shortSegs(5+i%12, 4))
	}
	for _, segs := range rows {
		size := d.size()
		for range 4 {
			p := d.spot(size)
			n, far, ok := impl.NearestSeg(segs, p)
			if ok != (len(segs) > 0) {
				t.Fatal("nearest", segs, p, n, ok)
			}
			for i, s := range segs {
				own, _ := impl.Near2(s, p)
				by, _ := impl.RatioCmp(own, far)
				if by < 0 || by == 0 && int64(i) < n || int64(i) == n && by != 0 {
					t.Fatal("nearer", segs, p, n, far, i, own)
				}
			}
			low, high := box(p, d.spot(size))
			got, ok := impl.WindowSegs(segs, low, high)
			greater, greaterHigh, wide := wider(low, high)
			all, allOk := impl.WindowSegs(segs, greater, greaterHigh)
			if !ok || allOk != wide {
				t.Fatal("window", segs, low, high, ok, allOk)
			}
			if wide && len(inBoth(got, all)) < len(got) {
				t.Fatal("fewer", segs, low, high, got, all)
			}
			if len(all) > len(got) {
				more++
			}
		}
		if countsOf(segs)[1] > 120 {
			continue
		}
		for k := range 6 {
			if path := d.path(segs, 1+k*2, 3+int64(k%3)); impl.Free(segs, path) {
				checkFreeWay(t, segs, path)
				if len(segs) > 0 {
					ways++
				}
			}
		}
	}
	if ways < 300 || more < 50 {
		t.Error("too few of a kind", ways, more)
	}
}

// TestWidestWindows has windows that can't be made greater, and ones that just can.
func TestWidestWindows(t *testing.T) {
	segs := []impl.Seg{seg(-edge, -edge, -edge, edge), seg(edge, -edge, edge, edge), seg(0, 0, 1, 1)}
	if got, ok := impl.WindowSegs(segs, spot(1-edge, 1-edge), spot(edge-1, edge-1)); !ok || !slices.Equal(got, []int64{2}) {
		t.Error(got, ok)
	}
	if got, ok := impl.WindowSegs(segs, spot(-edge, -edge), spot(edge, edge)); !ok || !slices.Equal(got, []int64{0, 1, 2}) {
		t.Error(got, ok)
	}
	if got, ok := impl.WindowSegs(segs, spot(-edge-1, -edge-1), spot(edge+1, edge+1)); ok || len(got) != 0 {
		t.Error(got, ok)
	}
}

func TestQueriesLeaveMemoryAlone(t *testing.T) {
	for _, segs := range slices.Concat(ourSegs(), wrongRows()) {
		ours, row := roomySegs(segs)
		was := slices.Clone(row)
		path := way(5, 9, 5, 9, 7, 9, 91, 92, 93, 94)
		pathWas := slices.Clone(path)
		for range 2 {
			n, far, ok := impl.NearestSeg(ours, spot(3, 3))
			want, wantFar, wantOk := impl.NearestSeg(segs, spot(3, 3))
			window, _ := impl.WindowSegs(ours, spot(-2, -2), spot(4, 4))
			wantWindow, _ := impl.WindowSegs(segs, spot(-2, -2), spot(4, 4))
			if n != want || far != wantFar || ok != wantOk || !slices.Equal(window, wantWindow) {
				t.Error("another answer", segs)
			}
			if impl.SameFace(ours, point(1, 1, 2), point(7, 1, 2)) != impl.SameFace(segs, point(1, 1, 2), point(7, 1, 2)) || impl.Free(ours, path[:3]) != impl.Free(segs, path[:3:3]) {
				t.Error("another answer", segs)
			}
			scribble(window)
			if !slices.Equal(row, was) || !slices.Equal(path, pathWas) {
				t.Fatal("written into", segs)
			}
		}
	}
}

// TestFacesAtOnce asks for many faces from many sides at once, and waits until all who were asked have gone home.
func TestFacesAtOnce(t *testing.T) {
	segs := squares(6, 2)
	f := facesWanted(segs)
	before := runtime.NumGoroutine()
	var all []chan bool
	var wanted []bool
	for i := range int64(200) {
		p, q := point(i%27-1, i/8, 1), point(2*(i/10)+1, 2*(i%25)+1, 2)
		answer := make(chan bool, 1)
		cell := f.cellWanted(placeOf(p))
		all, wanted = append(all, answer), append(wanted, cell.Kind == impl.CkFace && cell == f.cellWanted(placeOf(q)))
		go func() { answer <- impl.SameFace(segs, p, q) }()
	}
	for i, answer := range all {
		if got := <-answer; got != wanted[i] {
			t.Error(i, got, wanted[i])
		}
	}
	for range 1000000 {
		if runtime.NumGoroutine() <= before {
			return
		}
		runtime.Gosched()
	}
	t.Error("left behind", runtime.NumGoroutine()-before)
}
