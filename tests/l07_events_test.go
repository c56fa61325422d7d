package tests

import (
	"cmp"
	"math"
	"math/big"
	"slices"
	"testing"

	"loop.example/g00225/impl"
)

func event(at impl.Point, ends ...int64) impl.Event { return impl.Event{At: at, Ends: ends} }

func sameEvent(e, f impl.Event) bool { return e.At == f.At && slices.Equal(e.Ends, f.Ends) }

func sameEvents(q, r []impl.Event) bool { return slices.EqualFunc(q, r, sameEvent) }

// copyEvents is a row of its own, with no room behind anything.
func copyEvents(q []impl.Event) []impl.Event {
	out := make([]impl.Event, len(q))
	for i, e := range q {
		out[i] = event(e.At, slices.Clip(slices.Clone(e.Ends))...)
	}
	return out
}

// eventRow is n events along a way that rises by x, then by y.
func eventRow(n int64) []impl.Event {
	var out []impl.Event
	for i := range n {
		out = append(out, event(point(i/3, i%3, 1), i%40))
	}
	return out
}

func repeated(s impl.Seg, n int) []impl.Seg {
	return slices.Repeat([]impl.Seg{s}, n)
}

// star has segments through (x, y), out to the sides of a square round it, and some that only go from there or to there.
func star(x, y, arm int64) []impl.Seg {
	var out []impl.Seg
	put := func(a, b impl.Spot) {
		s, _ := impl.SegOf(a, b)
		out = append(out, s)
	}
	middle := spot(x, y)
	for i := -arm; i <= arm; i += max(1, arm/2) {
		put(spot(x-arm, y-i), spot(x+arm, y+i))
		put(spot(x-i, y-arm), spot(x+i, y+arm))
		put(middle, spot(x+i, y+arm))
		put(spot(x-arm, y+i), middle)
		put(spot(x+arm, y+i), middle)
	}
	return out
}

// onLine are segments from place to place along one line, which starts at s.A and goes on by what leads to s.B.
func onLine(s impl.Seg, places ...int64) []impl.Seg {
	at := func(n int64) impl.Spot {
		return spot(s.A.X+n*(s.B.X-s.A.X), s.A.Y+n*(s.B.Y-s.A.Y))
	}
	var out []impl.Seg
	for i := 0; i < len(places); i += 2 {
		out = append(out, impl.Seg{A: at(places[i]), B: at(places[i+1])})
	}
	return out
}

func fence(n int64) []impl.Seg {
	var out []impl.Seg
	for i := range n {
		out = append(out, seg(0, i+1, n+1, i+1), seg(i+1, 0, i+1, n+1))
	}
	return out
}

func sidesOf(l []impl.Ring) []impl.Seg {
	var out []impl.Seg
	for _, r := range l {
		out = append(out, segsWanted(r)...)
	}
	return out
}

func (d *dice) segs(n int, size int64) []impl.Seg {
	var out []impl.Seg
	for range n {
		out = append(out, d.seg(size))
	}
	return out
}

// ourSegs are rows of segments by hand: apart, through one point, over one another, twice, upright, at the ends of all there is.
func ourSegs() [][]impl.Seg {
	long := []int64{0, 3, 1, 2, 2, 5, 5, 7, 0, 7, 8, 9, 3, 5, 2, 3, 0, 3}
	mixed := append(onLine(seg(0, 0, 1, 1), long...), star(3, 3, 4)...)
	return [][]impl.Seg{
		nil, {}, {seg(0, 0, 1, 0)}, {seg(0, 0, 0, 1)}, repeated(seg(0, 0, 3, 1), 2), repeated(seg(0, 0, 0, 1), 3), repeated(seg(-edge, 2, edge, 1), 40), star(0, 0, 1), star(-2, 5, 4), star(edge-9, 9-edge, 9),
		onLine(seg(0, 0, 1, 0), long...), onLine(seg(0, 0, 0, 1), long...), onLine(seg(0, 0, 1, 1), long...), onLine(seg(0, 0, 2, -3), long...), mixed, append(onLine(seg(3, -2, 3, -1), long...), star(3, 3, 4)...),
		append(onLine(seg(-2, 3, -1, 3), long...), star(3, 3, 4)...), slices.Concat(onLine(seg(0, 0, 1, 1), long...), onLine(seg(0, 8, 1, 7), long...), onLine(seg(4, 0, 4, 1), long...), onLine(seg(0, 4, 1, 4), long...)),
		fence(1), fence(3), fence(20), gridSegs(3, 1, spot(0, 0)), gridSegs(3, edge, spot(-edge, -edge)), gridSegs(2, 2*edge, spot(-edge, -edge)),
		{seg(0, 0, 2, 2), seg(0, 2, 2, 0), seg(1, 1, 5, 1), seg(3, 1, 7, 1)}, {seg(0, 0, 4, 4), seg(0, 4, 4, 0), seg(2, -9, 2, 9), seg(0, 1, 9, 1), seg(4, 0, 9, 9)},
		{seg(0, 0, 4, 0), seg(4, 0, 8, 0), seg(4, 0, 4, 4), seg(4, -4, 4, 0)}, {seg(0, 0, 9, 9), seg(3, 3, 5, 5), seg(4, 4, 4, 9), seg(4, 0, 4, 4), seg(4, 2, 4, 6)},
		// Ones that cross far out, at points of the greatest parts.
		{seg(-edge, -edge, edge, edge), seg(-edge, 1-edge, edge, edge-1), seg(1-edge, -edge, edge-1, edge), seg(-edge, edge, edge, -edge), seg(-edge, edge-1, edge, -edge), seg(-edge, 0, edge, 1), seg(0, -edge, 1, edge)},
	}
}

// rightSegs are our own, sides of layers, one and two of them, and thrown ones of all sizes and numbers.
func rightSegs() [][]impl.Seg {
	out := ourSegs()
	layers := rightLayers()
	for i := 0; i+1 < len(layers); i += 4 {
		out = append(out, sidesOf(layers[i]), append(sidesOf(layers[i]), sidesOf(layers[i+1])...))
	}
	d := dice(67)
	for i := range 120 {
		out = append(out, d.segs(1+i%12, d.size()))
	}
	for _, n := range []int{20, 30, 39, 40} {
		out = append(out, d.segs(n, 2), d.segs(n, 5), d.segs(n, edge))
	}
	for range 10 {
		var near []impl.Seg
		for range 12 {
			near = append(near, d.nearEnds())
		}
		out = append(out, near)
	}
	for i := range 20 {
		size := d.size()
		row := d.segs(3, size)
		// Some twice, and some that have an end in common.
		row = append(row, row[i%3], impl.Seg{A: spot(-size, size), B: row[2].B}, impl.Seg{A: spot(-size, -size), B: row[2].B})
		out = append(out, slices.DeleteFunc(row, func(s impl.Seg) bool { return !impl.SegOk(s) }))
	}
	return out
}

// wrongRows are segments that are not right.
func wrongRows() [][]impl.Seg {
	out := [][]impl.Seg{repeated(seg(0, 0, 1, 1), 41), make([]impl.Seg, 1), make([]impl.Seg, 40), make([]impl.Seg, 41), repeated(seg(0, 0, 1, 1), 400)}
	for i, wrong := range wrongSegs() {
		row := repeated(seg(0, 0, 1, 1), i)
		out = append(out, append(row, wrong), slices.Insert(repeated(seg(0, 0, 1, 1), 39), i, wrong))
	}
	return out
}

func TestSegsFaults(t *testing.T) {
	for _, segs := range rightSegs() {
		if got := impl.SegsFault(segs); got != impl.SgOk || len(segs) > 40 {
			t.Error("right", segs, got)
		}
	}
	ours := seg(0, 0, 1, 1)
	for n := range 45 {
		want := int64(impl.SgOk)
		if n > 40 {
			want = impl.SgMany
		}
		if got := impl.SegsFault(repeated(ours, n)); got != want {
			t.Error(n, got, want)
		}
	}
	for _, wrong := range wrongSegs() {
		for _, n := range []int{0, 1, 7, 38, 39, 40, 41} {
			want := int64(impl.SgSeg)
			if n >= 40 {
				want = impl.SgMany
			}
			for _, at := range []int{0, n / 2, n} {
				if got := impl.SegsFault(slices.Insert(repeated(ours, n), at, wrong)); got != want {
					t.Error(wrong, n, at, got, want)
				}
			}
		}
	}
	if impl.MaxSegs != 40 || impl.MaxEvents != 200 || impl.SgOk != 0 || impl.SgMany != 1 || impl.SgSeg != 2 {
		t.Error("constants")
	}
}

func TestRightEvents(t *testing.T) {
	all := make([]int64, 40)
	for i := range all {
		all[i] = int64(i)
	}
	end, next := bigPart(-1), bigPart(-2)
	far, _ := pointFrom(end, end, big.NewInt(1))
	beforeFar, _ := pointFrom(end, next, big.NewInt(1))
	small, _ := pointFrom(big.NewInt(1), big.NewInt(1), end)
	smallAbove, _ := pointFrom(big.NewInt(1), big.NewInt(2), end)
	for i, q := range [][]impl.Event{
		nil, {}, {event(point(0, 0, 1), 0)}, {event(point(0, 0, 1), 39)}, {event(point(0, 0, 1), all...)}, {event(point(0, 0, 1), 0, 39)}, {event(point(1, 1, 2), 3), event(point(1, 1, 1), 3)},
		{event(point(0, 0, 1), 1), event(point(0, 1, 1), 1), event(point(1, -9, 1), 1)}, {event(small, 1), event(smallAbove, 2), event(beforeFar, 3), event(far, 4)}, eventRow(199), eventRow(200),
	} {
		if !impl.EventsOk(q) {
			t.Error("right", i)
		}
	}
	wrong := [][]impl.Event{
		eventRow(201), make([]impl.Event, 201), make([]impl.Event, 1), {event(point(0, 0, 1))}, {event(point(0, 0, 1), -1)}, {event(point(0, 0, 1), 40)}, {event(point(0, 0, 1), -1, 0, 1)}, {event(point(0, 0, 1), 0, 40)},
		{event(point(0, 0, 1), 2, 1)}, {event(point(0, 0, 1), 2, 2)}, {event(point(0, 0, 1), 1, 2, 3, 3)}, {event(point(0, 0, 1), 1, 3, 2)}, {event(point(0, 0, 1), math.MaxInt64)}, {event(point(0, 0, 1), math.MinInt64)},
		{event(point(0, 0, 1), 0, 1<<32)}, {event(point(0, 0, 1), append(slices.Clone(all), 40)...)}, {event(point(0, 0, 1), 1), event(point(0, 0, 1), 2)}, {event(point(1, 0, 1), 1), event(point(0, 0, 1), 1)},
		{event(point(0, 1, 1), 1), event(point(0, 0, 1), 1)}, {event(far, 1), event(beforeFar, 2)}, {event(smallAbove, 1), event(small, 2)}, {event(point(1, 1, 1), 3), event(point(1, 1, 2), 3)},
		{event(point(0, 0, 1), 1), event(point(2, 0, 1), 1), event(point(1, 0, 1), 1)}, {event(point(0, 0, 1), 1), event(point(1, 0, 1)), event(point(2, 0, 1), 1)}, {event(point(0, 0, 1), 1), event(point(1, 0, 1), 1), event(point(1, 0, 1), 1)},
	}
	for _, p := range wrongPoints() {
		wrong = append(wrong, []impl.Event{event(p, 1)}, []impl.Event{event(point(-9, 0, 1), 1), event(p, 1)}, []impl.Event{event(p, 1), event(point(9, 9, 1), 1)})
	}
	for i, q := range wrong {
		if impl.EventsOk(q) {
			t.Error("wrong", i)
		}
		if got, ok := impl.EventPut(q, point(5, 5, 1), 1); ok || len(got) != 0 {
			t.Error("put", i, got, ok)
		}
		if e, got, ok := impl.EventTake(q); ok || len(got) != 0 || !sameEvent(e, impl.Event{}) {
			t.Error("take", i, e, got, ok)
		}
	}
}

// putWanted puts the event behind all others and orders them by where they stand.
func putWanted(q []impl.Event, at impl.Point, n int64) []impl.Event {
	out := copyEvents(q)
	place := slices.IndexFunc(out, func(e impl.Event) bool { return e.At == at })
	if place < 0 {
		place = len(out)
		out = append(out, event(at))
	}
	if !slices.Contains(out[place].Ends, n) {
		out[place].Ends = append(out[place].Ends, n)
		slices.Sort(out[place].Ends)
	}
	slices.SortFunc(out, func(e, f impl.Event) int { return int(placeOf(e.At).order(placeOf(f.At))) })
	return out
}

func TestEventsPutAndTaken(t *testing.T) {
	d := dice(71)
	points := rightPoints()
	seen := map[string]int{}
	for range 40 {
		var q []impl.Event
		for range 60 {
			at, n := points[d.word()%uint64(len(points))], int64(d.word()%40)
			want := putWanted(q, at, n)
			got, ok := impl.EventPut(q, at, n)
			if !ok || !sameEvents(got, want) || !impl.EventsOk(got) {
				t.Fatal(q, at, n, got, ok)
			}
			twice, ok := impl.EventPut(got, at, n)
			if !ok || !sameEvents(twice, want) {
				t.Fatal("twice", got, at, n, twice)
			}
			switch {
			case len(got) == len(q):
				seen["there"]++
			case got[0].At == at:
				seen["ahead of all"]++
			case got[len(got)-1].At == at:
				seen["behind all"]++
			default:
				seen["between"]++
			}
			q = got
		}
		for len(q) > 0 {
			first, rest, ok := impl.EventTake(q)
			if !ok || !sameEvent(first, q[0]) || !sameEvents(rest, q[1:]) || !impl.EventsOk(rest) {
				t.Fatal("take", q, first, rest, ok)
			}
			q = rest
		}
	}
	if seen["there"] < 100 || seen["ahead of all"] < 100 || seen["behind all"] < 100 || seen["between"] < 100 {
		t.Error("too few of a kind", seen)
	}
}

func TestEventsOfOurOwn(t *testing.T) {
	ours := []impl.Event{event(point(0, 0, 1), 1, 5), event(point(2, 0, 1), 7)}
	for i, c := range []struct {
		at   impl.Point
		n    int64
		want []impl.Event
	}{
		{point(0, 0, 1), 1, ours}, {point(0, 0, 1), 5, ours}, {point(2, 0, 1), 7, ours},
		{point(0, 0, 1), 0, []impl.Event{event(point(0, 0, 1), 0, 1, 5), ours[1]}}, {point(0, 0, 1), 3, []impl.Event{event(point(0, 0, 1), 1, 3, 5), ours[1]}}, {point(0, 0, 1), 39, []impl.Event{event(point(0, 0, 1), 1, 5, 39), ours[1]}},
		{point(2, 0, 1), 6, []impl.Event{ours[0], event(point(2, 0, 1), 6, 7)}}, {point(-1, 9, 1), 7, []impl.Event{event(point(-1, 9, 1), 7), ours[0], ours[1]}}, {point(0, -1, 2), 7, []impl.Event{event(point(0, -1, 2), 7), ours[0], ours[1]}},
		{point(0, 1, 2), 7, []impl.Event{ours[0], event(point(0, 1, 2), 7), ours[1]}}, {point(1, -9, 1), 7, []impl.Event{ours[0], event(point(1, -9, 1), 7), ours[1]}}, {point(2, 1, 1), 0, []impl.Event{ours[0], ours[1], event(point(2, 1, 1), 0)}},
		{point(3, -1, 1), 0, []impl.Event{ours[0], ours[1], event(point(3, -1, 1), 0)}},
	} {
		if got, ok := impl.EventPut(ours, c.at, c.n); !ok || !sameEvents(got, c.want) {
			t.Error(i, got, ok)
		}
	}
	if got, ok := impl.EventPut(nil, point(1, 2, 3), 0); !ok || !sameEvents(got, []impl.Event{event(point(1, 2, 3), 0)}) {
		t.Error("none", got, ok)
	}
	if e, rest, ok := impl.EventTake(ours[1:]); !ok || !sameEvent(e, ours[1]) || len(rest) != 0 {
		t.Error("of one", e, rest, ok)
	}
	for _, q := range [][]impl.Event{nil, {}} {
		if e, rest, ok := impl.EventTake(q); ok || !sameEvent(e, impl.Event{}) || len(rest) != 0 {
			t.Error("of none", e, rest, ok)
		}
	}
}

func TestEventsAtTheirLimit(t *testing.T) {
	for n := int64(197); n <= 200; n++ {
		row := eventRow(n)
		for _, at := range []impl.Point{point(-1, 0, 1), point(0, 1, 2), point(7, 1, 2), point(30, 5, 1), point(99, 0, 1)} {
			got, ok := impl.EventPut(row, at, 3)
			if n == 200 && (ok || len(got) != 0) {
				t.Error("one too many", at, len(got), ok)
			}
			if n < 200 && (!ok || !sameEvents(got, putWanted(row, at, 3))) {
				t.Error("as many as there may be", n, at, len(got), ok)
			}
		}
		for _, i := range []int64{0, 1, 100, n - 1} {
			if got, ok := impl.EventPut(row, row[i].At, 39); !ok || !sameEvents(got, putWanted(row, row[i].At, 39)) {
				t.Error("there already", n, i, ok)
			}
		}
		if first, rest, ok := impl.EventTake(row); !ok || !sameEvent(first, row[0]) || !sameEvents(rest, row[1:]) {
			t.Error("take", n, ok)
		}
	}
}

func TestWrongEventsAreNotPut(t *testing.T) {
	for _, q := range [][]impl.Event{nil, eventRow(1), eventRow(9), eventRow(200)} {
		at := point(0, 0, 1)
		for _, n := range []int64{-1, 40, 41, -40, math.MaxInt64, math.MinInt64, 1 << 32, 1<<63 - 40} {
			if got, ok := impl.EventPut(q, at, n); ok || len(got) != 0 {
				t.Error(n, got, ok)
			}
		}
		for _, wrong := range wrongPoints() {
			if got, ok := impl.EventPut(q, wrong, 1); ok || len(got) != 0 {
				t.Error(wrong, got, ok)
			}
		}
	}
}

// standing is where a segment is on an upright line, and how it goes on.
type standing struct {
	y      *big.Rat
	slope  *big.Rat
	number int64
}

func statusWanted(segs []impl.Seg, p impl.Point) []int64 {
	x := placeOf(p).x
	var all []standing
	for i, s := range segs {
		a, b := placeAt(s.A), placeAt(s.B)
		if s.A.X == s.B.X || a.x.Cmp(x) > 0 || b.x.Cmp(x) <= 0 {
			continue
		}
		slope := big.NewRat(s.B.Y-s.A.Y, s.B.X-s.A.X)
		all = append(all, standing{ratPlus(a.y, ratTimes(slope, ratLess(x, a.x))), slope, int64(i)})
	}
	slices.SortFunc(all, func(s, q standing) int {
		return cmp.Or(s.y.Cmp(q.y), s.slope.Cmp(q.slope), cmp.Compare(s.number, q.number))
	})
	var out []int64
	for _, s := range all {
		out = append(out, s.number)
	}
	return out
}

// pointsNear are points on and off the segments, next to where they end and meet.
func pointsNear(segs []impl.Seg) []impl.Point {
	out := []impl.Point{point(0, 0, 1), point(1, 1, 2), point(edge, edge, 1)}
	for i, s := range segs {
		out = append(out, impl.PointOf(s.A), impl.PointOf(s.B), point(2*s.A.X+1, s.A.Y, 2), point(2*s.A.X-1, 3, 2), point(s.B.X, s.B.Y+1, 1))
		middle, _ := impl.Middle(impl.PointOf(s.A), impl.PointOf(s.B))
		out = append(out, middle)
		for _, q := range segs[max(0, i-3):i] {
			if kind, first, last := meetWanted(s, q); kind != impl.MtNone {
				out = append(out, first)
				if kind == impl.MtSpan {
					between, _ := impl.Middle(first, last)
					out = append(out, last, between)
				}
			}
		}
	}
	return out
}

func TestStatus(t *testing.T) {
	t.Parallel()
	seen := map[string]int{}
	for _, segs := range rightSegs() {
		for _, p := range pointsNear(segs) {
			got, want := impl.StatusAt(segs, p), statusWanted(segs, p)
			if !slices.Equal(got, want) {
				t.Fatal(segs, p, got, want)
			}
			seen["in all"]++
			for i := 1; i < len(got); i++ {
				s, q := segs[got[i-1]], segs[got[i]]
				kind, first, _ := meetWanted(s, q)
				switch {
				case kind == impl.MtSpan:
					seen["over one another"]++
				case kind == impl.MtPoint && placeOf(first).x.Cmp(placeOf(p).x) == 0:
					seen["of one y"]++
				}
			}
		}
	}
	if seen["in all"] < 5000 || seen["over one another"] < 500 || seen["of one y"] < 500 {
		t.Error("too few of a kind", seen)
	}
}

// TestStatusRises goes by what stands over what (chapter 4), at the points of each segment on the line.
func TestStatusRises(t *testing.T) {
	for _, segs := range ourSegs() {
		for _, p := range pointsNear(segs) {
			row := impl.StatusAt(segs, p)
			for i, n := range row {
				if impl.SegOk(segs[n]) && segs[n].A.X == segs[n].B.X {
					t.Error("upright", segs, p, n)
				}
				side := impl.OverAt(segs[n], p)
				if side == 2 || i > 0 && impl.OverAt(segs[row[i-1]], p) > side {
					t.Error("falls", segs, p, row)
				}
			}
		}
	}
}

func TestStatusOfOurOwn(t *testing.T) {
	fan := []impl.Seg{seg(0, 0, 4, 4), seg(0, 0, 4, 0), seg(0, 0, 4, -4), seg(0, 0, 0, 9), seg(-4, 0, 0, 0), seg(0, 0, 2, 2), seg(0, 0, 1, 9), seg(-4, 4, 4, -4), seg(-3, 0, 1, 0)}
	cross := []impl.Seg{seg(0, 0, 4, 4), seg(0, 4, 4, 0), seg(0, 2, 4, 2), seg(2, 0, 2, 4), seg(1, 1, 3, 3)}
	twice := []impl.Seg{seg(0, 1, 9, 1), seg(0, 0, 9, 0), seg(2, 1, 5, 1), seg(0, 0, 9, 0), seg(1, 0, 5, 0)}
	for i, c := range []struct {
		segs []impl.Seg
		p    impl.Point
		want []int64
	}{
		{nil, point(0, 0, 1), nil}, {fan, point(-5, 0, 1), nil}, {fan, point(4, 0, 1), nil}, {fan, point(9, 0, 1), nil}, {[]impl.Seg{seg(1, 0, 1, 5)}, point(1, 2, 1), nil},
		// Those that end at the point's x are gone, those that begin there are in.
		{fan, point(0, 0, 1), []int64{2, 7, 1, 8, 0, 5, 6}}, {fan, point(0, 77, 1), []int64{2, 7, 1, 8, 0, 5, 6}}, {fan, point(0, -77, 1), []int64{2, 7, 1, 8, 0, 5, 6}},
		{fan, point(-4, 0, 1), []int64{4, 7}}, {fan, point(-7, 0, 2), []int64{4, 7}}, {fan, point(-3, 0, 1), []int64{4, 8, 7}}, {fan, point(1, 0, 1), []int64{2, 7, 1, 0, 5}}, {fan, point(2, 0, 1), []int64{2, 7, 1, 0}}, {fan, point(1, 0, 2), []int64{2, 7, 1, 8, 0, 5, 6}},
		{cross, point(0, 0, 1), []int64{0, 2, 1}}, {cross, point(1, 0, 1), []int64{0, 4, 2, 1}}, {cross, point(2, 0, 1), []int64{1, 2, 0, 4}}, {cross, point(2, 2, 1), []int64{1, 2, 0, 4}}, {cross, point(3, 0, 1), []int64{1, 2, 0}}, {cross, point(19, 0, 10), []int64{0, 4, 2, 1}},
		{cross, point(21, 0, 10), []int64{1, 2, 0, 4}}, {cross, point(4, 0, 1), nil}, {twice, point(0, 0, 1), []int64{1, 3, 0}}, {twice, point(1, 0, 1), []int64{1, 3, 4, 0}}, {twice, point(3, 1, 1), []int64{1, 3, 4, 0, 2}}, {twice, point(5, 1, 1), []int64{1, 3, 0}},
		{repeated(seg(0, 0, 2, 1), 4), point(1, 9, 1), []int64{0, 1, 2, 3}},
	} {
		if got := impl.StatusAt(c.segs, c.p); !slices.Equal(got, c.want) {
			t.Error(i, got, c.want)
		}
	}
}

// TestStatusOfAlmostOneY has segments that are apart by far less than one, under points of the greatest parts.
func TestStatusOfAlmostOneY(t *testing.T) {
	segs := []impl.Seg{seg(-edge, -edge, edge, edge), seg(-edge, -edge, edge-1, edge), seg(1-edge, -edge, edge, edge), seg(-edge, 1-edge, edge, edge), seg(-edge, -edge, edge, edge-1), seg(1-edge, 1-edge, edge-1, edge-1), seg(-edge, -edge, 0, 0)}
	d := dice(73)
	seen := 0
	for range 3000 {
		w := new(big.Int).Abs(d.part())
		w.Add(w, big.NewInt(1))
		far := new(big.Int).Mul(w, big.NewInt(edge))
		x := new(big.Int).Sub(new(big.Int).Mod(new(big.Int).Mul(d.part(), w), far.Add(far, far)), new(big.Int).Rsh(far, 1))
		p, ok := pointFrom(x, d.part(), w)
		if !ok {
			continue
		}
		got, want := impl.StatusAt(segs, p), statusWanted(segs, p)
		if !slices.Equal(got, want) {
			t.Fatal(p, got, want)
		}
		if len(got) > 4 {
			seen++
		}
	}
	if seen < 500 {
		t.Error("too few of a kind", seen)
	}
}

func TestStatusOfWrongOnes(t *testing.T) {
	ours := []impl.Seg{seg(-9, 0, 9, 0), seg(-9, 1, 9, 1)}
	for _, wrong := range wrongPoints() {
		if got := impl.StatusAt(ours, wrong); len(got) != 0 {
			t.Error(wrong, got)
		}
	}
	for _, wrong := range wrongRows() {
		for _, p := range []impl.Point{point(0, 0, 1), point(1, 0, 2), {}} {
			if got := impl.StatusAt(wrong, p); len(got) != 0 {
				t.Error(wrong, got)
			}
		}
	}
}

// roomySegs are the same segments with room behind them, and the whole row.
func roomySegs(segs []impl.Seg) ([]impl.Seg, []impl.Seg) {
	row := append(slices.Clone(segs), seg(91, 92, 93, 94), seg(95, 96, 97, 98), seg(-1, -1, 5, 5))
	return row[:len(segs)], row
}

// roomyEvents are the same events with room behind them and behind their Ends, and all these rows.
func roomyEvents(q []impl.Event) ([]impl.Event, []impl.Event, [][]int64) {
	var row []impl.Event
	var ends [][]int64
	for _, e := range q {
		own := append(slices.Clone(e.Ends), 91, 92, 93)
		ends = append(ends, own)
		row = append(row, event(e.At, own[:len(e.Ends)]...))
	}
	row = append(row, event(point(91, 92, 1), 33), event(point(93, 94, 1), 34))
	return row[:len(q)], row, ends
}

func TestEventsLeaveMemoryAlone(t *testing.T) {
	rows := [][]impl.Event{nil, {event(point(0, 0, 1), 3)}, {event(point(0, 0, 1), 3, 9), event(point(0, 1, 1), 1, 2, 3), event(point(5, 1, 1), 7)}, eventRow(200), eventRow(201), {event(point(1, 1, 1), 3), event(point(1, 1, 2), 3)}}
	for _, q := range rows {
		ours, row, ends := roomyEvents(q)
		was, endsWere := copyEvents(row), [][]int64{}
		for _, list := range ends {
			endsWere = append(endsWere, slices.Clone(list))
		}
		check := func() {
			if !sameEvents(row, was) || !slices.EqualFunc(ends, endsWere, slices.Equal[[]int64]) {
				t.Fatal("written into", q)
			}
		}
		for _, at := range []impl.Point{point(0, 0, 1), point(0, 1, 1), point(-1, 0, 1), point(3, 0, 1), point(99, 0, 1), {}} {
			for _, n := range []int64{0, 2, 3, 39, 40} {
				impl.EventsOk(ours)
				got, _ := impl.EventPut(ours, at, n)
				check()
				scribbleEvents(t, got)
				check()
				first, rest, _ := impl.EventTake(ours)
				check()
				scribbleEvents(t, append([]impl.Event{first}, rest...))
				scribble(rest)
				check()
			}
		}
	}
}

// scribbleEvents writes over one list of Ends after the other, and looks whether another one of the answer changes.
func scribbleEvents(t *testing.T, q []impl.Event) {
	t.Helper()
	was := copyEvents(q)
	for i, e := range q {
		scribble(e.Ends)
		if len(q) > 50 && i%20 != 0 {
			continue
		}
		if !sameEvents(q[i+1:], was[i+1:]) {
			t.Fatal("two lists share", was)
		}
	}
	scribble(q)
}

func TestStatusLeavesMemoryAlone(t *testing.T) {
	for _, segs := range slices.Concat(ourSegs(), wrongRows()) {
		ours, row := roomySegs(segs)
		was := slices.Clone(row)
		for range 2 {
			fault, got := impl.SegsFault(ours), impl.StatusAt(ours, point(1, 1, 2))
			if fault != impl.SegsFault(segs) || !slices.Equal(got, impl.StatusAt(segs, point(1, 1, 2))) {
				t.Error("another answer", segs)
			}
			scribble(got)
			if !slices.Equal(row, was) {
				t.Fatal("written into", segs)
			}
		}
	}
}
