package tests

import (
	"cmp"
	"math"
	"slices"
	"testing"

	"loop.example/g00225/impl"
)

func sameBlock(a, b impl.Block) bool {
	return a.X == b.X && a.Y == b.Y && a.Size == b.Size && a.Split == b.Split && slices.Equal(a.Ids, b.Ids)
}

func sameBlocks(a, b []impl.Block) bool { return slices.EqualFunc(a, b, sameBlock) }

func sameQuad(a, b impl.Quad) bool {
	return a.Most == b.Most && a.Deep == b.Deep && slices.Equal(a.Items, b.Items) && sameBlocks(a.Blocks, b.Blocks)
}

func copyQuad(q impl.Quad) impl.Quad {
	out := impl.Quad{Most: q.Most, Deep: q.Deep, Items: slices.Clone(q.Items)}
	for _, b := range q.Blocks {
		b.Ids = slices.Clone(b.Ids)
		out.Blocks = append(out.Blocks, b)
	}
	return out
}

func item(id int64, s impl.Seg) impl.Item { return impl.Item{Id: id, Seg: s} }

func leaf(x, y, size int64, ids ...int64) impl.Block {
	return impl.Block{X: x, Y: y, Size: size, Ids: ids}
}

func splitBlock(x, y, size int64) impl.Block {
	return impl.Block{X: x, Y: y, Size: size, Split: true}
}

// root is QuadEdge, whose block is twice as wide.
const root = 1048576

// meetsSquare cuts the way along s, from 0 to 1, off at each of the four edges; parts are held against each other crosswise.
func meetsSquare(s impl.Seg, x, y, size int64) bool {
	by := s.B.X - s.A.X
	up := s.B.Y - s.A.Y
	low, high := [2]int64{0, 1}, [2]int64{1, 1}
	for _, c := range [][2]int64{{s.A.X - x, by}, {x + size - s.A.X, -by}, {s.A.Y - y, up}, {y + size - s.A.Y, -up}} {
		at, way := c[0], c[1]
		switch {
		case way == 0 && at < 0:
			return false
		case way > 0 && -at*low[1] > low[0]*way:
			low = [2]int64{-at, way}
		case way < 0 && at*high[1] < high[0]*-way:
			high = [2]int64{at, -way}
		}
	}
	return low[0]*high[1] <= high[0]*low[1]
}

// grown is a tree by the names of those of its blocks that are split: "" is the root, and the name of a kid is its block's and a digit.
type grown struct {
	most, deep int64
	items      []impl.Item
	split      map[string]int
}

func newGrown(most, deep int64) *grown {
	return &grown{most: most, deep: deep, split: map[string]int{}}
}

func squareOf(name string) (int64, int64, int64) {
	x, y, size := int64(-root), int64(-root), int64(2*root)
	for _, digit := range name {
		size /= 2
		x += int64(digit-'0') % 2 * size
		y += int64(digit-'0') / 2 * size
	}
	return x, y, size
}

func meetsName(s impl.Seg, name string) bool {
	x, y, size := squareOf(name)
	return meetsSquare(s, x, y, size)
}

// namesFrom are the names of a block and of all that is in it, as they stand in the row.
func (g *grown) namesFrom(name string) []string {
	out := []string{name}
	if g.split[name] > 0 {
		for _, digit := range []string{"0", "1", "2", "3"} {
			out = append(out, g.namesFrom(name+digit)...)
		}
	}
	return out
}

func (g *grown) leaves() []string {
	return slices.DeleteFunc(g.namesFrom(""), func(name string) bool { return g.split[name] > 0 })
}

func (g *grown) idsAt(names ...string) []int64 {
	var out []int64
	for _, it := range g.items {
		if slices.ContainsFunc(names, func(name string) bool { return meetsName(it.Seg, name) }) {
			out = append(out, it.Id)
		}
	}
	slices.Sort(out)
	return out
}

func (g *grown) quad() impl.Quad {
	out := impl.Quad{Most: g.most, Deep: g.deep, Items: slices.Clone(g.items)}
	for _, name := range g.namesFrom("") {
		x, y, size := squareOf(name)
		if g.split[name] > 0 {
			out.Blocks = append(out.Blocks, splitBlock(x, y, size))
		} else {
			out.Blocks = append(out.Blocks, leaf(x, y, size, g.idsAt(name)...))
		}
	}
	return out
}

// put is QuadPut of a tree that has room for the item; false when there would be too many blocks, and then nothing changes.
func (g *grown) put(id int64, s impl.Seg) bool {
	names := g.leaves()
	was := g.items
	g.items = append(slices.Clone(g.items), item(id, s))
	slices.SortFunc(g.items, func(a, b impl.Item) int { return cmp.Compare(a.Id, b.Id) })
	var split []string
	for _, name := range names {
		if meetsName(s, name) && int64(len(g.idsAt(name))) > g.most && int64(len(name)) < g.deep {
			split = append(split, name)
		}
	}
	if 1+4*(len(g.split)+len(split)) > 2000 {
		g.items = was
		return false
	}
	for _, name := range split {
		g.split[name]++
	}
	return true
}

// cut is QuadCut of an item that is there; the blocks that are leaves again are looked for one by one.
func (g *grown) cut(id int64) {
	g.items = slices.DeleteFunc(slices.Clone(g.items), func(it impl.Item) bool { return it.Id == id })
	for again := true; again; {
		again = false
		for name := range g.split {
			kids := []string{name + "0", name + "1", name + "2", name + "3"}
			isSplit := func(kid string) bool { return g.split[kid] > 0 }
			if !slices.ContainsFunc(kids, isSplit) && int64(len(g.idsAt(kids...))) <= g.most {
				delete(g.split, name)
				again = true
				break
			}
		}
	}
}

// counts are how many leaves there are, and how far below the root the deepest one is.
func (g *grown) counts() [2]int64 {
	deepest := 0
	names := g.leaves()
	for _, name := range names {
		deepest = max(deepest, len(name))
	}
	return [2]int64{int64(len(names)), int64(deepest)}
}

func quadCounts(q impl.Quad) [2]int64 {
	n, deep := impl.QuadCount(q)
	return [2]int64{n, deep}
}

// windowWanted asks of each item.
func windowWanted(items []impl.Item, low, high impl.Spot) []int64 {
	var out []int64
	for _, it := range items {
		if impl.MeetsBox(it.Seg, low, high) {
			out = append(out, it.Id)
		}
	}
	return out
}

func nearestWanted(items []impl.Item, p impl.Spot) (int64, impl.Ratio) {
	var id int64
	var best impl.Ratio
	for _, it := range items {
		far, _ := impl.Near2(it.Seg, p)
		if by, _ := impl.RatioCmp(far, best); id == 0 || by < 0 {
			id, best = it.Id, far
		}
	}
	return id, best
}

func checkWindow(t *testing.T, q impl.Quad, low, high impl.Spot) []int64 {
	t.Helper()
	want := windowWanted(q.Items, low, high)
	got, ok := impl.QuadWindow(q, low, high)
	if !ok || !slices.Equal(got, want) {
		t.Fatal("window", q.Items, low, high, got, ok, want)
	}
	return got
}

func checkNearest(t *testing.T, q impl.Quad, p impl.Spot) {
	t.Helper()
	want, far := nearestWanted(q.Items, p)
	got, gotFar, ok := impl.QuadNearest(q, p)
	if ok != (len(q.Items) > 0) || got != want || gotFar != far {
		t.Fatal("nearest", q.Items, p, got, gotFar, ok, want, far)
	}
}

// checkQuad holds a tree against one that is wanted, and asks it for what lies about some spots.
func checkQuad(t *testing.T, q impl.Quad, g *grown, d *dice, size int64) {
	t.Helper()
	if want := g.quad(); !sameQuad(q, want) {
		t.Fatal("tree", q, want)
	}
	if !impl.QuadOk(q) || quadCounts(q) != g.counts() || g.counts()[0] != 1+3*int64(len(g.split)) {
		t.Fatal("right", q, quadCounts(q), g.counts())
	}
	for range 3 {
		a, b := d.spot(size), d.spot(size)
		low, high := spot(min(a.X, b.X), min(a.Y, b.Y)), spot(max(a.X, b.X), max(a.Y, b.Y))
		checkWindow(t, q, low, high)
		checkWindow(t, q, low, spot(low.X, high.Y))
		checkWindow(t, q, a, a)
		checkNearest(t, q, a)
		checkNearest(t, q, d.spot(edge))
	}
}

// onBlocks is a thrown segment whose ends lie on the edges of blocks of a level, if there is one.
func (d *dice) onBlocks(level int64) (impl.Seg, bool) {
	by := int64(2*root) >> level
	return impl.SegOf(spot(d.coord(edge)/by*by, d.coord(edge)/by*by), spot(d.coord(edge)/by*by, d.coord(edge)/by*by))
}

// quadSeg is a segment of any size, or one along the edges of blocks.
func (d *dice) quadSeg(size int64) impl.Seg {
	if d.word()%3 == 0 {
		if s, ok := d.onBlocks(1 + int64(d.word()%8)); ok {
			return s
		}
	}
	return d.seg(size)
}

// freeId is a thrown number that is not there.
func (d *dice) freeId(q impl.Quad) int64 {
	for {
		id := 1 + int64(d.word()%1000)
		if d.word()%4 == 0 {
			id = 1 + int64(d.word()%3)
		}
		if !slices.ContainsFunc(q.Items, func(it impl.Item) bool { return it.Id == id }) {
			return id
		}
	}
}

// countQuad notes what kinds of leaves and blocks a step has made.
func countQuad(was, is impl.Quad, put bool, seen map[string]int) {
	for _, b := range is.Blocks {
		if int64(len(b.Ids)) > is.Most {
			level := int64(0)
			for size := b.Size; size < 2*root; size *= 2 {
				level++
			}
			if level == is.Deep {
				seen["too many at the deepest level"]++
			} else {
				seen["too many though split once"]++
			}
		}
	}
	splits := func(q impl.Quad) int {
		return (len(q.Blocks) - 1) / 4
	}
	if put && splits(is) > splits(was)+1 {
		seen["several split at once"]++
	}
	if !put && splits(is) < splits(was) {
		seen["leaf again"]++
		if splits(is)+2 < splits(was) {
			seen["several levels again"]++
		}
	}
}

func TestQuads(t *testing.T) {
	t.Parallel()
	d := dice(301)
	seen := map[string]int{}
	for i := range 150 {
		most, deep, size := 1+int64(i%8), int64(d.word()%9), d.size()
		g := newGrown(most, deep)
		q, ok := impl.QuadNew(most, deep)
		if !ok {
			t.Fatal(most, deep)
		}
		checkQuad(t, q, g, &d, size)
		for step := range 45 {
			// At first mostly more, then fewer and fewer.
			was, put := q, len(q.Items) == 0 || len(q.Items) < 40 && d.word()%8 > 0 == (step < 25)
			if put {
				id, s := d.freeId(q), d.quadSeg(size)
				room := g.put(id, s)
				next, ok := impl.QuadPut(q, id, s)
				if ok != room || !room && !sameQuad(next, impl.Quad{}) {
					t.Fatal("room", q, id, s, next, ok)
				}
				if ok {
					q = next
				}
			} else {
				id := q.Items[d.word()%uint64(len(q.Items))].Id
				g.cut(id)
				if q, ok = impl.QuadCut(q, id); !ok {
					t.Fatal("cut", was, id)
				}
			}
			if len(q.Blocks) > 400 {
				break
			}
			checkQuad(t, q, g, &d, size)
			countQuad(was, q, put, seen)
		}
	}
	for _, kind := range []string{"too many at the deepest level", "too many though split once", "several split at once", "leaf again", "several levels again"} {
		if seen[kind] < 30 {
			t.Error("too few of a kind", kind, seen)
		}
	}
}

func TestQuadSquares(t *testing.T) {
	d := dice(307)
	met := map[bool]int{}
	for range 3000 {
		name := ""
		for range d.word() % 9 {
			name += string(rune('0' + d.word()%4))
		}
		s := d.quadSeg(d.size())
		x, y, size := squareOf(name)
		want := !inBox(s, placeAt(spot(x, y)), placeAt(spot(x+size, y+size))).empty
		if meetsSquare(s, x, y, size) != want {
			t.Fatal(s, name)
		}
		met[want]++
	}
	if met[true] < 300 || met[false] < 300 {
		t.Error("too few of a kind", met)
	}
	if impl.QuadEdge != root || impl.MaxItems != 40 || impl.MaxItem != 1000 || impl.MaxMost != 8 || impl.MaxDeep != 8 || impl.MaxBlocks != 2000 {
		t.Error("constants")
	}
}

// filled puts segments in, numbered from 1 on.
func filled(t *testing.T, most, deep int64, segs ...impl.Seg) impl.Quad {
	t.Helper()
	q, ok := impl.QuadNew(most, deep)
	for i, s := range segs {
		if ok {
			q, ok = impl.QuadPut(q, int64(i+1), s)
		}
	}
	if !ok {
		t.Fatal("not filled", most, deep, segs)
	}
	return q
}

func TestNewQuads(t *testing.T) {
	for _, most := range []int64{math.MinInt64, -1, 0, 1, 2, 7, 8, 9, 1<<32 + 1, math.MaxInt64} {
		for _, deep := range []int64{math.MinInt64, -1, 0, 1, 7, 8, 9, 1 << 32, math.MaxInt64} {
			right := 1 <= most && most <= 8 && 0 <= deep && deep <= 8
			want := impl.Quad{}
			if right {
				want = impl.Quad{Most: most, Deep: deep, Blocks: []impl.Block{leaf(-root, -root, 2*root)}}
			}
			q, ok := impl.QuadNew(most, deep)
			if ok != right || !sameQuad(q, want) || impl.QuadOk(q) != right {
				t.Error(most, deep, q, ok)
			}
			if got := quadCounts(q); right && got != [2]int64{1, 0} || !right && got != [2]int64{} {
				t.Error(most, deep, got)
			}
			wrong := impl.Quad{Most: most, Deep: deep, Blocks: []impl.Block{leaf(-root, -root, 2*root)}}
			if impl.QuadOk(wrong) != right {
				t.Error("right", wrong)
			}
		}
	}
}

func TestQuadsOfOurOwn(t *testing.T) {
	const half, quarter = root, root / 2
	in := seg(5, 5, 9, 9)
	for i, c := range []struct {
		most, deep int64
		segs       []impl.Seg
		want       []impl.Block
	}{
		{1, 0, nil, []impl.Block{leaf(-root, -root, 2*root)}},
		{1, 0, repeated(in, 4), []impl.Block{leaf(-root, -root, 2*root, 1, 2, 3, 4)}},
		{8, 8, repeated(in, 8), []impl.Block{leaf(-root, -root, 2*root, 1, 2, 3, 4, 5, 6, 7, 8)}},
		// One too many: the root is split, and its kids are not.
		{1, 8, repeated(in, 2), []impl.Block{splitBlock(-root, -root, 2*root), leaf(-root, -root, half), leaf(0, -root, half), leaf(-root, 0, half), leaf(0, 0, half, 1, 2)}},
		{8, 8, repeated(in, 9), []impl.Block{splitBlock(-root, -root, 2*root), leaf(-root, -root, half), leaf(0, -root, half), leaf(-root, 0, half), leaf(0, 0, half, 1, 2, 3, 4, 5, 6, 7, 8, 9)}},
		// At the deepest level nothing is split any more.
		{1, 1, repeated(in, 3), []impl.Block{splitBlock(-root, -root, 2*root), leaf(-root, -root, half), leaf(0, -root, half), leaf(-root, 0, half), leaf(0, 0, half, 1, 2, 3)}},
		{1, 2, repeated(in, 3), []impl.Block{splitBlock(-root, -root, 2*root), leaf(-root, -root, half), leaf(0, -root, half), leaf(-root, 0, half), splitBlock(0, 0, half), leaf(0, 0, quarter, 1, 2, 3), leaf(quarter, 0, quarter), leaf(0, quarter, quarter), leaf(quarter, quarter, quarter)}},
		// Along the edge of two blocks it is in both, through a corner of blocks, or at it, in all four.
		{1, 1, []impl.Seg{in, seg(0, 1, 0, 3)}, []impl.Block{splitBlock(-root, -root, 2*root), leaf(-root, -root, half), leaf(0, -root, half), leaf(-root, 0, half, 2), leaf(0, 0, half, 1, 2)}},
		{1, 1, []impl.Seg{in, seg(1, 0, 3, 0)}, []impl.Block{splitBlock(-root, -root, 2*root), leaf(-root, -root, half), leaf(0, -root, half, 2), leaf(-root, 0, half), leaf(0, 0, half, 1, 2)}},
		{1, 1, []impl.Seg{in, seg(-1, -1, 1, 1)}, []impl.Block{splitBlock(-root, -root, 2*root), leaf(-root, -root, half, 2), leaf(0, -root, half, 2), leaf(-root, 0, half, 2), leaf(0, 0, half, 1, 2)}},
		{1, 1, []impl.Seg{in, seg(0, 0, 1, 1)}, []impl.Block{splitBlock(-root, -root, 2*root), leaf(-root, -root, half, 2), leaf(0, -root, half, 2), leaf(-root, 0, half, 2), leaf(0, 0, half, 1, 2)}},
		{1, 1, []impl.Seg{in, seg(-9, -8, 9, 9)}, []impl.Block{splitBlock(-root, -root, 2*root), leaf(-root, -root, half, 2), leaf(0, -root, half), leaf(-root, 0, half, 2), leaf(0, 0, half, 1, 2)}},
		{1, 1, []impl.Seg{in, seg(-3, 1, 0, 4)}, []impl.Block{splitBlock(-root, -root, 2*root), leaf(-root, -root, half), leaf(0, -root, half), leaf(-root, 0, half, 2), leaf(0, 0, half, 1, 2)}},
		{1, 1, []impl.Seg{in, seg(-3, 1, -1, 4)}, []impl.Block{splitBlock(-root, -root, 2*root), leaf(-root, -root, half), leaf(0, -root, half), leaf(-root, 0, half, 2), leaf(0, 0, half, 1)}},
		// At the ends of all there is.
		{1, 1, []impl.Seg{seg(-edge, -edge, edge, edge), seg(-edge, edge, edge, edge)}, []impl.Block{splitBlock(-root, -root, 2*root), leaf(-root, -root, half, 1), leaf(0, -root, half, 1), leaf(-root, 0, half, 1, 2), leaf(0, 0, half, 1, 2)}},
		{1, 1, []impl.Seg{seg(edge, -edge, edge, edge), seg(-edge, -edge, -edge, edge)}, []impl.Block{splitBlock(-root, -root, 2*root), leaf(-root, -root, half, 2), leaf(0, -root, half, 1), leaf(-root, 0, half, 2), leaf(0, 0, half, 1)}},
		// Several leaves are split by one more: each that it meets and that has too many.
		{1, 2, []impl.Seg{seg(-9, -9, -5, -5), seg(5, 5, 9, 9), seg(-8, -8, 8, 8)}, []impl.Block{
			splitBlock(-root, -root, 2*root),
			splitBlock(-root, -root, half), leaf(-root, -root, quarter), leaf(-quarter, -root, quarter), leaf(-root, -quarter, quarter), leaf(-quarter, -quarter, quarter, 1, 3),
			leaf(0, -root, half, 3), leaf(-root, 0, half, 3),
			splitBlock(0, 0, half), leaf(0, 0, quarter, 2, 3), leaf(quarter, 0, quarter), leaf(0, quarter, quarter), leaf(quarter, quarter, quarter),
		}},
	} {
		q := filled(t, c.most, c.deep, c.segs...)
		if !sameBlocks(q.Blocks, c.want) || !impl.QuadOk(q) {
			t.Error(i, q.Blocks)
		}
		for n, s := range c.segs {
			if q.Items[n] != item(int64(n+1), s) {
				t.Error(i, q.Items)
			}
		}
	}
}

func TestDeepestQuads(t *testing.T) {
	in := seg(5, 5, 9, 9)
	q := filled(t, 1, 8, repeated(in, 12)...)
	if got := quadCounts(q); got != [2]int64{25, 8} {
		t.Error(got)
	}
	last := q.Blocks[len(q.Blocks)-1]
	deepest := slices.IndexFunc(q.Blocks, func(b impl.Block) bool { return b.Size == 8192 })
	if !sameBlock(q.Blocks[deepest], leaf(0, 0, 8192, 1, 2, 3, 4, 5, 6, 7, 8, 9, 10, 11, 12)) || !sameBlock(last, leaf(root/2, root/2, root/2)) {
		t.Error(q.Blocks[deepest], last)
	}
	// Level by level it is a leaf again, as soon as there are few enough.
	for id := int64(1); id <= 10; id++ {
		q, _ = impl.QuadCut(q, id)
		if got := quadCounts(q); got != [2]int64{25, 8} {
			t.Error(id, got)
		}
	}
	q, ok := impl.QuadCut(q, 11)
	if !ok || !sameQuad(q, impl.Quad{Most: 1, Deep: 8, Items: []impl.Item{item(12, in)}, Blocks: []impl.Block{leaf(-root, -root, 2*root, 12)}}) {
		t.Error(q)
	}
}

func TestCutQuadsOfOurOwn(t *testing.T) {
	// A tree that is split for no need is right; to cut anything mends it, wherever it is.
	g := newGrown(2, 8)
	g.items = []impl.Item{item(4, seg(5, 5, 9, 9)), item(5, seg(-5, -5, -2, -2)), item(9, seg(-edge, 0, edge, 0))}
	for _, name := range []string{"", "0", "3", "00", "003", "2", "1", "33", "333"} {
		g.split[name]++
	}
	q := g.quad()
	if !impl.QuadOk(q) || quadCounts(q) != [2]int64{28, 4} {
		t.Error(q, quadCounts(q))
	}
	got, ok := impl.QuadCut(q, 9)
	if !ok || !sameBlocks(got.Blocks, []impl.Block{leaf(-root, -root, 2*root, 4, 5)}) {
		t.Error(got, ok)
	}
	// To put one more leaves it split.
	more, ok := impl.QuadPut(q, 1, seg(-900001, -900001, -900000, -900000))
	if !ok || !more.Blocks[0].Split || len(more.Blocks) != len(q.Blocks) {
		t.Error(more, ok)
	}
	// Three in two kids are one too many, though no kid has too many: two of them are in both.
	q = filled(t, 2, 1, seg(-9, 5, 9, 5), seg(-9, 6, 9, 6), seg(5, 5, 9, 9), seg(-9, -9, -8, -8))
	got, ok = impl.QuadCut(q, 4)
	if !ok || len(got.Blocks) != 5 {
		t.Error(got, ok)
	}
	got, ok = impl.QuadCut(got, 3)
	if !ok || !sameBlocks(got.Blocks, []impl.Block{leaf(-root, -root, 2*root, 1, 2)}) {
		t.Error("counted once", got, ok)
	}
	// One that was no leaf's last: a block of leaves stays as long as a brother is split.
	q = filled(t, 1, 8, seg(5, 5, 9, 9), seg(6, 5, 9, 8), seg(7, 5, 9, 7), seg(-9, -9, -8, -8))
	before := len(q.Blocks)
	got, ok = impl.QuadCut(q, 4)
	if !ok || len(got.Blocks) != before || len(got.Items) != 3 {
		t.Error(got, ok)
	}
}

// TestFullQuads has as many items as there may be, and one more.
func TestFullQuads(t *testing.T) {
	d := dice(311)
	segs := d.segs(40, 1000)
	q := filled(t, 8, 3, segs...)
	if len(q.Items) != 40 || !impl.QuadOk(q) {
		t.Error(q)
	}
	if got, ok := impl.QuadPut(q, 41, segs[0]); ok || !sameQuad(got, impl.Quad{}) {
		t.Error("one more", got, ok)
	}
	less, ok := impl.QuadCut(q, 40)
	if !ok || len(less.Items) != 39 {
		t.Error("one less", less, ok)
	}
	if got, ok := impl.QuadPut(less, 1000, segs[0]); !ok || len(got.Items) != 40 || got.Items[39] != item(1000, segs[0]) {
		t.Error("again", got, ok)
	}
	g := newGrown(8, 3)
	for i, s := range segs {
		g.items = append(g.items, item(int64(i+1), s))
	}
	g.items = append(g.items, item(41, segs[0]))
	if impl.QuadOk(g.quad()) {
		t.Error("41 items")
	}
}

func TestQuadNumbers(t *testing.T) {
	q := filled(t, 2, 3, seg(0, 0, 1, 1))
	for id, right := range map[int64]bool{math.MinInt64: false, -1: false, 0: false, 1: false, 2: true, 3: true, 999: true, 1000: true, 1001: false, 1<<32 + 5: false, math.MaxInt64: false} {
		got, ok := impl.QuadPut(q, id, seg(3, 3, 4, 4))
		if ok != right || right && got.Items[1] != item(id, seg(3, 3, 4, 4)) || !right && !sameQuad(got, impl.Quad{}) {
			t.Error("put", id, got, ok)
		}
		if got, ok := impl.QuadCut(q, id); ok != (id == 1) || !ok && !sameQuad(got, impl.Quad{}) {
			t.Error("cut", id, got, ok)
		}
	}
	q, _ = impl.QuadPut(q, 1000, seg(3, 3, 4, 4))
	q, ok := impl.QuadPut(q, 500, seg(6, 6, 7, 7))
	if !ok || q.Items[0].Id != 1 || q.Items[1].Id != 500 || q.Items[2].Id != 1000 {
		t.Error(q)
	}
	for _, id := range []int64{1, 500, 1000} {
		if got, ok := impl.QuadPut(q, id, seg(8, 8, 9, 9)); ok || !sameQuad(got, impl.Quad{}) {
			t.Error("there already", id, got, ok)
		}
	}
	for _, wrong := range wrongSegs() {
		if got, ok := impl.QuadPut(q, 7, wrong); ok || !sameQuad(got, impl.Quad{}) {
			t.Error("segment", wrong, got, ok)
		}
	}
}

// wideTree is one of 499 blocks that are split, and 1997 in all; one more would be too many.
func wideTree() *grown {
	g := newGrown(1, 8)
	names := []string{""}
	for len(g.split) < 499 {
		name := names[0]
		names = names[1:]
		g.split[name]++
		for _, digit := range []string{"0", "1", "2", "3"} {
			names = append(names, name+digit)
		}
	}
	g.items = []impl.Item{item(7, seg(900001, 900001, 900009, 900009))}
	return g
}

func TestWidestQuads(t *testing.T) {
	g := wideTree()
	q := g.quad()
	if len(q.Blocks) != 1997 || !impl.QuadOk(q) || quadCounts(q) != g.counts() {
		t.Fatal(len(q.Blocks), quadCounts(q), g.counts())
	}
	checkWindow(t, q, spot(900000, 900000), spot(900005, 900005))
	checkNearest(t, q, spot(-edge, -edge))
	// One where no leaf has too many is put, one that would split a leaf is not.
	if got, ok := impl.QuadPut(q, 8, seg(-900009, -900009, -900001, -900001)); !ok || len(got.Blocks) != 1997 || len(got.Items) != 2 {
		t.Error("room", len(got.Blocks), ok)
	}
	if got, ok := impl.QuadPut(q, 8, seg(900001, 900001, 900009, 900005)); ok || !sameQuad(got, impl.Quad{}) {
		t.Error("no room", len(got.Blocks), ok)
	}
	if got, ok := impl.QuadCut(q, 7); !ok || !sameBlocks(got.Blocks, []impl.Block{leaf(-root, -root, 2*root)}) {
		t.Error("cut", len(got.Blocks), ok)
	}
	// A tree of one more is none, though all else in it is right.
	g.split[g.leaves()[0]]++
	if q := g.quad(); len(q.Blocks) != 2001 || impl.QuadOk(q) {
		t.Error("too many blocks", len(q.Blocks))
	}
}

// TestFillingQuads puts long ones in until there is no room for the blocks.
func TestFillingQuads(t *testing.T) {
	g := newGrown(1, 8)
	q, _ := impl.QuadNew(1, 8)
	refused := 0
	for i := range int64(40) {
		s := seg(-edge, i*999-edge, edge-i, edge-i*777)
		room := g.put(i+1, s)
		got, ok := impl.QuadPut(q, i+1, s)
		if ok != room {
			t.Fatal(i, ok, room)
		}
		if !ok {
			refused++
			continue
		}
		q = got
		if !sameQuad(q, g.quad()) || !impl.QuadOk(q) {
			t.Fatal(i, len(q.Blocks))
		}
	}
	if refused < 5 || len(q.Items) < 5 || len(q.Blocks) < 1000 {
		t.Error("too few of a kind", refused, len(q.Items), len(q.Blocks))
	}
	d := dice(313)
	for range 40 {
		checkNearest(t, q, d.spot(edge))
		a := d.spot(edge - 5000)
		checkWindow(t, q, a, spot(a.X+5000, a.Y+5000))
	}
}

func TestWindowsOfOurOwn(t *testing.T) {
	segs := []impl.Seg{seg(0, 0, 4, 2), seg(0, 0, 0, 9), seg(-9, 5, 9, 5), seg(20, 20, 30, 10), seg(-edge, -edge, -edge, edge)}
	for _, limits := range [][2]int64{{1, 0}, {1, 8}, {2, 3}, {8, 8}} {
		q := filled(t, limits[0], limits[1], segs...)
		for i, c := range []struct {
			low, high impl.Spot
			want      []int64
		}{
			{spot(-edge, -edge), spot(edge, edge), []int64{1, 2, 3, 4, 5}}, {spot(0, 0), spot(0, 0), []int64{1, 2}}, {spot(2, 1), spot(2, 1), []int64{1}}, {spot(2, 2), spot(2, 2), nil}, {spot(0, 5), spot(0, 5), []int64{2, 3}},
			// Ones that only touch, by an end, a side or a corner, and ones that just do not.
			{spot(4, 2), spot(9, 4), []int64{1}}, {spot(5, 2), spot(9, 4), nil}, {spot(1, 5), spot(3, 7), []int64{3}}, {spot(1, 6), spot(3, 7), nil}, {spot(-5, 1), spot(0, 3), []int64{2}}, {spot(-5, 1), spot(-1, 3), nil}, {spot(24, 14), spot(25, 15), []int64{4}}, {spot(23, 14), spot(24, 15), nil}, {spot(25, 15), spot(40, 40), []int64{4}}, {spot(26, 15), spot(40, 40), nil},
			// Boxes that are a line.
			{spot(-9, 9), spot(9, 9), []int64{2}}, {spot(-9, 10), spot(9, 10), nil}, {spot(3, -5), spot(3, 5), []int64{1, 3}}, {spot(3, 2), spot(3, 4), nil}, {spot(-edge, edge), spot(edge, edge), []int64{5}}, {spot(edge, -edge), spot(edge, edge), nil},
		} {
			if got := checkWindow(t, q, c.low, c.high); !slices.Equal(got, c.want) {
				t.Error(limits, i, got, c.want)
			}
		}
	}
}

func TestNearestOfOurOwn(t *testing.T) {
	segs := []impl.Seg{seg(10, 0, 20, 0), seg(10, 0, 10, 9), seg(-10, -5, -10, 5), seg(10, 0, 20, 0), seg(0, 100, 1, 101)}
	for _, limits := range [][2]int64{{1, 0}, {1, 8}, {2, 3}, {8, 8}} {
		q := filled(t, limits[0], limits[1], segs...)
		for i, c := range []struct {
			p    impl.Spot
			want int64
			far  string
		}{
			{spot(15, 0), 1, "0"}, {spot(15, 1), 1, "1"}, {spot(20, 0), 1, "0"}, {spot(10, 5), 2, "0"}, {spot(10, 0), 1, "0"}, {spot(12, 2), 1, "4"}, {spot(12, 3), 2, "4"}, {spot(30, 0), 1, "100"},
			// As near to those on the left as to those on the right: the least number is told, on whatever side.
			{spot(0, 0), 1, "100"}, {spot(0, 1), 2, "100"}, {spot(-1, 1), 3, "81"}, {spot(1, 1), 2, "81"}, {spot(0, 100), 5, "0"}, {spot(1, 100), 5, "1/2"}, {spot(-edge, 0), 3, "999980000100"}, {spot(edge, edge), 5, "1999796010202"}, {spot(edge, -edge), 1, "1999960000400"},
		} {
			checkNearest(t, q, c.p)
			if got, far, ok := impl.QuadNearest(q, c.p); !ok || got != c.want || impl.RatioText(far) != c.far {
				t.Error(limits, i, got, impl.RatioText(far), ok)
			}
		}
	}
	// The least number is told of ones in other blocks too, whichever is put first.
	for _, ids := range [][2]int64{{3, 8}, {8, 3}} {
		q, _ := impl.QuadNew(1, 8)
		q, _ = impl.QuadPut(q, ids[0], seg(-600000, -600000, -600000, -599999))
		q, _ = impl.QuadPut(q, ids[1], seg(600000, 599999, 600000, 600000))
		if got, _, ok := impl.QuadNearest(q, spot(0, 0)); !ok || got != 3 || len(q.Blocks) != 5 {
			t.Error(ids, got, ok)
		}
	}
}

// TestNearestSeveral has many as near as others, in blocks of all kinds.
func TestNearestSeveral(t *testing.T) {
	d := dice(317)
	several := 0
	for i := range 60 {
		q, _ := impl.QuadNew(1+int64(i%3), int64(i%9))
		by := int64(1) << (2 + i%17)
		for range 14 {
			s, ok := impl.SegOf(spot(d.coord(2)*by, d.coord(2)*by), spot(d.coord(2)*by, d.coord(2)*by))
			if ok && impl.SegOk(s) {
				if next, ok := impl.QuadPut(q, d.freeId(q), s); ok {
					q = next
				}
			}
		}
		for x := int64(-3); x <= 3; x++ {
			for y := int64(-3); y <= 3; y++ {
				p := spot(x*by/2, y*by/2)
				checkNearest(t, q, p)
				_, far := nearestWanted(q.Items, p)
				as := 0
				for _, it := range q.Items {
					if near, _ := impl.Near2(it.Seg, p); near == far {
						as++
					}
				}
				if as > 1 {
					several++
				}
			}
		}
	}
	if several < 500 {
		t.Error("too few of a kind", several)
	}
}

// isRightQuad takes the names of the blocks from the row, and holds it against the tree that has these.
func isRightQuad(q impl.Quad) bool {
	if q.Most < 1 || q.Most > 8 || q.Deep < 0 || q.Deep > 8 || len(q.Items) > 40 || len(q.Blocks) > 2000 {
		return false
	}
	last := int64(0)
	for _, it := range q.Items {
		if it.Id <= last || it.Id > 1000 || !impl.SegOk(it.Seg) {
			return false
		}
		last = it.Id
	}
	g := newGrown(q.Most, q.Deep)
	g.items = q.Items
	names := []string{""}
	for _, b := range q.Blocks {
		if len(names) == 0 || int64(len(names[0])) > q.Deep {
			return false
		}
		name := names[0]
		names = names[1:]
		if b.Split {
			g.split[name]++
			names = append([]string{name + "0", name + "1", name + "2", name + "3"}, names...)
		}
	}
	return len(names) == 0 && sameQuad(q, g.quad())
}

// refusesQuad asks a tree that is not right for all there is.
func refusesQuad(t *testing.T, what string, q impl.Quad) {
	t.Helper()
	if impl.QuadOk(q) {
		t.Error("right", what, q)
	}
	if got, ok := impl.QuadPut(q, 77, seg(0, 0, 1, 1)); ok || !sameQuad(got, impl.Quad{}) {
		t.Error("put", what, got, ok)
	}
	for _, it := range append(slices.Clone(q.Items), item(1, seg(0, 0, 1, 1))) {
		if got, ok := impl.QuadCut(q, it.Id); ok || !sameQuad(got, impl.Quad{}) {
			t.Error("cut", what, got, ok)
		}
	}
	if got, ok := impl.QuadWindow(q, spot(-9, -9), spot(9, 9)); ok || len(got) != 0 {
		t.Error("window", what, got, ok)
	}
	if got, far, ok := impl.QuadNearest(q, spot(0, 0)); ok || got != 0 || far != (impl.Ratio{}) {
		t.Error("nearest", what, got, far, ok)
	}
	if got := quadCounts(q); got != [2]int64{} {
		t.Error("counts", what, got)
	}
}

// ourQuad has three levels, empty leaves and full ones, and items along the edges of blocks.
func ourQuad(t *testing.T) impl.Quad {
	return filled(t, 1, 3, seg(5, 5, 9, 9), seg(0, 1, 0, 3), seg(-9, -9, 700000, 700000), seg(-9, -9, -8, -8), seg(6, 5, 9, 8))
}

func TestWrongQuads(t *testing.T) {
	split := func(b impl.Block) bool { return b.Split }
	full := func(b impl.Block) bool { return len(b.Ids) > 1 }
	empty := func(b impl.Block) bool { return !b.Split && len(b.Ids) == 0 }
	at := func(q *impl.Quad, is func(impl.Block) bool) *impl.Block {
		return &q.Blocks[slices.IndexFunc(q.Blocks, is)]
	}
	last := func(q *impl.Quad) *impl.Block { return &q.Blocks[len(q.Blocks)-1] }
	for what, change := range map[string]func(q *impl.Quad){
		"most 0":                      func(q *impl.Quad) { q.Most = 0 },
		"most 9":                      func(q *impl.Quad) { q.Most = 9 },
		"most below":                  func(q *impl.Quad) { q.Most = math.MinInt64 },
		"deep below":                  func(q *impl.Quad) { q.Deep = -1 },
		"deep 9":                      func(q *impl.Quad) { q.Deep = 9 },
		"deep above":                  func(q *impl.Quad) { q.Deep = math.MaxInt64 },
		"deeper than deep":            func(q *impl.Quad) { q.Deep = 2 },
		"deep 0 and split":            func(q *impl.Quad) { q.Deep = 0 },
		"no blocks":                   func(q *impl.Quad) { q.Blocks = nil },
		"the root alone":              func(q *impl.Quad) { q.Blocks = q.Blocks[:1] },
		"one block too few":           func(q *impl.Quad) { q.Blocks = q.Blocks[:len(q.Blocks)-1] },
		"one block too many":          func(q *impl.Quad) { q.Blocks = append(q.Blocks, *last(q)) },
		"two roots":                   func(q *impl.Quad) { q.Blocks = slices.Repeat(q.Blocks, 2) },
		"a block twice":               func(q *impl.Quad) { q.Blocks = slices.Insert(q.Blocks, 3, q.Blocks[3]) },
		"a block missing":             func(q *impl.Quad) { q.Blocks = slices.Delete(q.Blocks, 2, 3) },
		"blocks the other way round":  func(q *impl.Quad) { slices.Reverse(q.Blocks) },
		"two blocks exchanged":        func(q *impl.Quad) { n := len(q.Blocks); q.Blocks[n-1], q.Blocks[n-2] = q.Blocks[n-2], q.Blocks[n-1] },
		"another x":                   func(q *impl.Quad) { last(q).X++ },
		"another y":                   func(q *impl.Quad) { last(q).Y-- },
		"another size":                func(q *impl.Quad) { last(q).Size-- },
		"another root":                func(q *impl.Quad) { q.Blocks[0].Size *= 2 },
		"another root's x":            func(q *impl.Quad) { q.Blocks[0].X = 0 },
		"another root's y":            func(q *impl.Quad) { q.Blocks[0].Y = math.MinInt64 },
		"split, and no kids":          func(q *impl.Quad) { at(q, empty).Split = true },
		"kids, and not split":         func(q *impl.Quad) { at(q, split).Split = false },
		"an id of one that is split":  func(q *impl.Quad) { at(q, split).Ids = []int64{1} },
		"all ids of the root":         func(q *impl.Quad) { q.Blocks[0].Ids = []int64{1, 2, 3, 4, 5} },
		"an id missing":               func(q *impl.Quad) { at(q, full).Ids = at(q, full).Ids[1:] },
		"no ids":                      func(q *impl.Quad) { at(q, full).Ids = nil },
		"an id too many":              func(q *impl.Quad) { at(q, empty).Ids = []int64{1} },
		"an id that is not there":     func(q *impl.Quad) { at(q, empty).Ids = []int64{9} },
		"an id twice":                 func(q *impl.Quad) { at(q, full).Ids = slices.Insert(at(q, full).Ids, 0, at(q, full).Ids[0]) },
		"ids not rising":              func(q *impl.Quad) { slices.Reverse(at(q, full).Ids) },
		"another id":                  func(q *impl.Quad) { at(q, full).Ids[0] += 1 << 32 },
		"no items":                    func(q *impl.Quad) { q.Items = nil },
		"an item missing":             func(q *impl.Quad) { q.Items = q.Items[1:] },
		"an item too many":            func(q *impl.Quad) { q.Items = append(q.Items, item(9, seg(0, 0, 1, 1))) },
		"an item twice":               func(q *impl.Quad) { q.Items = slices.Insert(q.Items, 0, q.Items[0]) },
		"items not rising":            func(q *impl.Quad) { slices.Reverse(q.Items) },
		"an item moved":               func(q *impl.Quad) { q.Items[3].Seg = seg(-900000, 800000, -900000, 900000) },
		"a wrong segment":             func(q *impl.Quad) { q.Items[3].Seg = impl.Seg{A: spot(-8, -8), B: spot(-9, -9)} },
		"a segment that is a spot":    func(q *impl.Quad) { q.Items[3].Seg.A = q.Items[3].Seg.B },
		"a number 0":                  func(q *impl.Quad) { q.Items[0].Id = 0 },
		"a number 1001":               func(q *impl.Quad) { q.Items[4].Id = 1001 },
		"a number below":              func(q *impl.Quad) { q.Items[0].Id = math.MinInt64 },
		"more than all the items":     func(q *impl.Quad) { q.Items = slices.Repeat(q.Items, 9) },
		"a segment past the ends":     func(q *impl.Quad) { q.Items[2].Seg.B.X = edge + 1 },
		"many empty blocks behind it": func(q *impl.Quad) { q.Blocks = append(q.Blocks, make([]impl.Block, 9)...) },
		"many more":                   func(q *impl.Quad) { q.Blocks = append(q.Blocks, make([]impl.Block, 5000)...) },
		"nothing":                     func(q *impl.Quad) { *q = impl.Quad{} },
	} {
		q := ourQuad(t)
		if !impl.QuadOk(q) || quadCounts(q) != [2]int64{16, 3} {
			t.Fatal("our own", q, quadCounts(q))
		}
		change(&q)
		if isRightQuad(q) {
			t.Error("it is right", what, q)
		}
		refusesQuad(t, what, q)
	}
}

// TestNumbersOfItems renames items 0 and 1001 wherever they stand: the numbers alone are wrong.
func TestNumbersOfItems(t *testing.T) {
	for _, c := range []struct {
		ids   [2]int64
		right bool
	}{
		{[2]int64{1, 1000}, true}, {[2]int64{1, 2}, true}, {[2]int64{0, 2}, false}, {[2]int64{-1, 2}, false}, {[2]int64{2, 1001}, false}, {[2]int64{2, 2}, false}, {[2]int64{3, 2}, false}, {[2]int64{math.MinInt64, math.MaxInt64}, false},
	} {
		s := seg(0, 0, 1, 1)
		q := impl.Quad{Most: 1, Deep: 0, Items: []impl.Item{item(c.ids[0], s), item(c.ids[1], s)}, Blocks: []impl.Block{leaf(-root, -root, 2*root, c.ids[:]...)}}
		if impl.QuadOk(q) != c.right {
			t.Error(c)
		}
	}
}

// TestChangedQuads changes right trees here and there: most are not right any more.
func TestChangedQuads(t *testing.T) {
	d := dice(331)
	seen := map[bool]int{}
	for i := range 4000 {
		q := filled(t, 1+int64(i%2), int64(i%4), d.segs(1+i%6, d.size())...)
		any := func(n int) int { return int(d.word() % uint64(n)) }
		b := &q.Blocks[any(len(q.Blocks))]
		switch i % 11 {
		case 0:
			q.Most += d.coord(2)
		case 1:
			q.Deep += d.coord(2)
		case 2:
			b.Split = !b.Split
		case 3:
			b.Ids = append(b.Ids, 1+int64(any(6)))
		case 4:
			b.Ids = b.Ids[:any(len(b.Ids)+1)]
		case 5:
			b.X, b.Y = b.X+d.coord(1), b.Y+d.coord(1)
		case 6:
			b.Size += d.coord(1)
		case 7:
			k := any(len(q.Blocks))
			*b, q.Blocks[k] = q.Blocks[k], *b
		case 8:
			k := any(len(q.Blocks))
			q.Blocks = slices.Delete(q.Blocks, k, k+1)
		case 9:
			q.Items[any(len(q.Items))].Seg = d.seg(5)
		case 10:
			q.Items[any(len(q.Items))].Id += d.coord(1)
		}
		want := isRightQuad(q)
		if impl.QuadOk(q) != want {
			t.Fatal(i, q, want)
		}
		if !want {
			refusesQuad(t, "changed", q)
		}
		seen[want]++
	}
	if seen[true] < 300 || seen[false] < 300 {
		t.Error("too few of a kind", seen)
	}
}

func TestWrongBoxesAndSpotsOfQuads(t *testing.T) {
	none, _ := impl.QuadNew(3, 3)
	for _, q := range []impl.Quad{none, ourQuad(t)} {
		for _, wrong := range wrongSpots() {
			for _, box := range [][2]impl.Spot{{wrong, spot(edge, edge)}, {spot(-edge, -edge), wrong}, {wrong, wrong}} {
				if got, ok := impl.QuadWindow(q, box[0], box[1]); ok || len(got) != 0 {
					t.Error("window", box, got, ok)
				}
			}
			if got, far, ok := impl.QuadNearest(q, wrong); ok || got != 0 || far != (impl.Ratio{}) {
				t.Error("nearest", wrong, got, far, ok)
			}
		}
		for _, box := range [][2]impl.Spot{{spot(3, 0), spot(2, 3)}, {spot(0, 3), spot(3, 2)}, {spot(3, 3), spot(0, 0)}, {spot(1, 0), spot(0, 0)}, {spot(edge, edge), spot(-edge, -edge)}} {
			if got, ok := impl.QuadWindow(q, box[0], box[1]); ok || len(got) != 0 {
				t.Error("no box", box, got, ok)
			}
		}
		if got, ok := impl.QuadWindow(q, spot(0, 0), spot(0, 0)); !ok || len(got) > len(q.Items) {
			t.Error("a spot", got, ok)
		}
	}
	if got, far, ok := impl.QuadNearest(none, spot(0, 0)); ok || got != 0 || far != (impl.Ratio{}) {
		t.Error("no item", got, far, ok)
	}
	if got, ok := impl.QuadCut(none, 1); ok || !sameQuad(got, impl.Quad{}) {
		t.Error("no item", got, ok)
	}
}

// filledBy puts items in in an order.
func filledBy(t *testing.T, most, deep int64, items []impl.Item, order []int64) impl.Quad {
	t.Helper()
	q, _ := impl.QuadNew(most, deep)
	for _, i := range order {
		next, ok := impl.QuadPut(q, items[i].Id, items[i].Seg)
		if !ok || !impl.QuadOk(next) || !slices.Contains(next.Items, items[i]) || len(next.Items) != len(q.Items)+1 {
			t.Fatal("put", q, items[i], next)
		}
		back, ok := impl.QuadCut(next, items[i].Id)
		if !ok || !impl.QuadOk(back) || !slices.Equal(back.Items, q.Items) {
			t.Fatal("cut", next, items[i], back)
		}
		q = next
		splits := int64(0)
		for _, b := range q.Blocks {
			if b.Split {
				splits++
			}
		}
		if leaves := quadCounts(q)[0]; leaves != 3*splits+1 || leaves+splits != int64(len(q.Blocks)) {
			t.Fatal("leaves", q, leaves, splits)
		}
	}
	return q
}

// TestPromise13 leans on nothing but the answers.
func TestPromise13(t *testing.T) {
	t.Parallel()
	d := dice(337)
	for i := range 40 {
		size := d.size()
		var items []impl.Item
		for k := range int64(1 + i%14) {
			items = append(items, item(3+7*k, d.quadSeg(size)))
		}
		orders := ordersOf(len(items), 1, &d)
		first := filledBy(t, 1, 5, items, orders[0])
		for k, limits := range [][2]int64{{1, 5}, {1, 0}, {8, 8}, {3, 2}, {2, 6}} {
			q := filledBy(t, limits[0], limits[1], items, orders[k])
			for range 10 {
				p := d.spot(size)
				id, far, ok := impl.QuadNearest(first, p)
				if other, otherFar, otherOk := impl.QuadNearest(q, p); other != id || otherFar != far || otherOk != ok {
					t.Fatal("nearest", items, limits, p, id, other)
				}
				high := spot(min(edge, p.X+size), min(edge, p.Y+1))
				got, _ := impl.QuadWindow(first, p, high)
				if other, ok := impl.QuadWindow(q, p, high); !ok || !slices.Equal(got, other) {
					t.Fatal("window", items, limits, p, high, got, other)
				}
			}
		}
	}
}

// roomyQuad is the same tree with room behind all its lists, and these lists.
func roomyQuad(q impl.Quad) (impl.Quad, []impl.Item, []impl.Block, [][]int64) {
	items := append(slices.Clone(q.Items), item(91, seg(0, 0, 1, 1)), item(92, seg(0, 0, 2, 2)))
	var blocks []impl.Block
	var lists [][]int64
	for _, b := range q.Blocks {
		list := append(slices.Clone(b.Ids), 91, 92, 93)
		lists = append(lists, list)
		b.Ids = list[:len(b.Ids)]
		blocks = append(blocks, b)
	}
	blocks = append(blocks, leaf(91, 92, 93, 94), leaf(95, 96, 97, 98))
	return impl.Quad{Most: q.Most, Deep: q.Deep, Items: items[:len(q.Items)], Blocks: blocks[:len(q.Blocks)]}, items, blocks, lists
}

// scribbleQuad writes over one list of a tree after the other, and looks whether another one changes.
func scribbleQuad(t *testing.T, q impl.Quad) {
	t.Helper()
	kept := copyQuad(q)
	for i, b := range q.Blocks {
		scribble(b.Ids)
		if !sameBlocks(q.Blocks[i+1:], kept.Blocks[i+1:]) {
			t.Fatal("two lists share", kept)
		}
	}
	scribble(q.Blocks)
	if !slices.Equal(q.Items, kept.Items) {
		t.Fatal("two lists share", kept)
	}
	scribble(q.Items)
}

func TestQuadsLeaveMemoryAlone(t *testing.T) {
	d := dice(347)
	trees := []impl.Quad{{}, ourQuad(t), filled(t, 8, 8), filled(t, 1, 0, d.segs(9, 50)...), filled(t, 1, 8, d.segs(12, edge)...), filled(t, 2, 4, d.segs(30, 500)...)}
	wrong := ourQuad(t)
	wrong.Blocks[3].Ids = append(wrong.Blocks[3].Ids, 1000)
	for _, q := range append(trees, wrong) {
		ours, items, blocks, lists := roomyQuad(q)
		itemsWere, blocksWere := slices.Clone(items), copyQuad(impl.Quad{Blocks: blocks}).Blocks
		var listsWere [][]int64
		for _, list := range lists {
			listsWere = append(listsWere, slices.Clone(list))
		}
		for range 2 {
			ok := impl.QuadOk(ours)
			put, putOk := impl.QuadPut(ours, 500, seg(3, 3, 8, 9))
			wantedPut, _ := impl.QuadPut(q, 500, seg(3, 3, 8, 9))
			cut, cutOk := impl.QuadCut(ours, 1)
			wantedCut, _ := impl.QuadCut(q, 1)
			window, windowOk := impl.QuadWindow(ours, spot(-9, -9), spot(90, 90))
			wantedWindow, _ := impl.QuadWindow(q, spot(-9, -9), spot(90, 90))
			id, _, _ := impl.QuadNearest(ours, spot(3, 3))
			wantedId, _, _ := impl.QuadNearest(q, spot(3, 3))
			if ok != isRightQuad(q) || putOk != ok || windowOk != ok || cutOk != (ok && len(q.Items) > 0) || !sameQuad(put, wantedPut) || !sameQuad(cut, wantedCut) || !slices.Equal(window, wantedWindow) || id != wantedId || quadCounts(ours) != quadCounts(q) {
				t.Error("another answer", q)
			}
			scribbleQuad(t, put)
			scribbleQuad(t, cut)
			scribble(window)
			if !slices.Equal(items, itemsWere) || !sameBlocks(blocks, blocksWere) || !slices.EqualFunc(lists, listsWere, slices.Equal[[]int64]) {
				t.Fatal("written into", q)
			}
		}
		if fresh, ok := impl.QuadNew(1, 1); ok {
			scribbleQuad(t, fresh)
			if again, _ := impl.QuadNew(1, 1); !impl.QuadOk(again) {
				t.Error("kept", again)
			}
		}
	}
}
