package tests

import (
	"math"
	"math/big"
	"testing"

	"loop.example/g00225/impl"
)

// place is where a point stands, worked out by math/big alone.
type place struct {
	x *big.Rat
	y *big.Rat
}

func placeOf(p impl.Point) place {
	w := bigOf(p.W)
	return place{new(big.Rat).SetFrac(bigOf(p.X), w), new(big.Rat).SetFrac(bigOf(p.Y), w)}
}

func ratTimes(a, b *big.Rat) *big.Rat { return new(big.Rat).Mul(a, b) }
func ratLess(a, b *big.Rat) *big.Rat  { return new(big.Rat).Sub(a, b) }
func ratPlus(a, b *big.Rat) *big.Rat  { return new(big.Rat).Add(a, b) }

func (p place) order(q place) int64 {
	if c := p.x.Cmp(q.x); c != 0 {
		return int64(c)
	}
	return int64(p.y.Cmp(q.y))
}

func (p place) turn(q, r place) int64 {
	left := ratTimes(ratLess(q.x, p.x), ratLess(r.y, p.y))
	right := ratTimes(ratLess(q.y, p.y), ratLess(r.x, p.x))
	return int64(left.Cmp(right))
}

func (p place) far2(q place) *big.Rat {
	x, y := ratLess(p.x, q.x), ratLess(p.y, q.y)
	return ratPlus(ratTimes(x, x), ratTimes(y, y))
}

// between goes by the box over both ends, not by the order of points.
func (p place) between(q, r place) bool {
	within := func(a, b, c *big.Rat) bool {
		return a.Cmp(c) <= 0 && c.Cmp(b) <= 0 || b.Cmp(c) <= 0 && c.Cmp(a) <= 0
	}
	return p.turn(q, r) == 0 && within(p.x, q.x, r.x) && within(p.y, q.y, r.y)
}

func bitsFit(parts ...*big.Int) bool {
	for _, part := range parts {
		if part.BitLen() > 80 {
			return false
		}
	}
	return true
}

// pointFrom is the right point (x / w, y / w), and whether there is one.
func pointFrom(x, y, w *big.Int) (impl.Point, bool) {
	if w.Sign() == 0 {
		return impl.Point{}, false
	}
	size := func(n *big.Int) *big.Int { return new(big.Int).Abs(n) }
	common := new(big.Int).GCD(nil, nil, new(big.Int).GCD(nil, nil, size(x), size(y)), size(w))
	if w.Sign() < 0 {
		common.Neg(common)
	}
	x, y, w = new(big.Int).Quo(x, common), new(big.Int).Quo(y, common), new(big.Int).Quo(w, common)
	if !bitsFit(x, y, w) {
		return impl.Point{}, false
	}
	px, _ := wideOf(x)
	py, _ := wideOf(y)
	pw, _ := wideOf(w)
	return impl.Point{X: px, Y: py, W: pw}, true
}

func pointAt(p place) (impl.Point, bool) {
	x := new(big.Int).Mul(p.x.Num(), p.y.Denom())
	y := new(big.Int).Mul(p.y.Num(), p.x.Denom())
	return pointFrom(x, y, new(big.Int).Mul(p.x.Denom(), p.y.Denom()))
}

// point is made of small parts that are in lowest terms as they stand.
func point(x, y, w int64) impl.Point {
	return impl.Point{X: impl.WideOf(x), Y: impl.WideOf(y), W: impl.WideOf(w)}
}

// bigPart is 2^80 and add: MaxPart bits from -1 down, one more from 0 on.
func bigPart(add int64) *big.Int {
	return new(big.Int).Add(power(80), big.NewInt(add))
}

func (d *dice) part() *big.Int {
	n := new(big.Int).SetUint64(d.word())
	n.Lsh(n, 16).Or(n, new(big.Int).SetUint64(d.word()>>48))
	n.Rsh(n, uint(d.word()%80))
	if d.word()%2 == 0 {
		n.Neg(n)
	}
	return n
}

func (d *dice) point() impl.Point {
	for {
		if p, ok := pointFrom(d.part(), d.part(), d.part()); ok {
			return p
		}
	}
}

// rightPoints are a small lattice of halves and wholes, points at the ends of the parts, and thrown ones.
func rightPoints() []impl.Point {
	var out []impl.Point
	seen := map[impl.Point]bool{}
	put := func(x, y, w *big.Int) {
		if p, ok := pointFrom(x, y, w); ok && !seen[p] {
			seen[p] = true
			out = append(out, p)
		}
	}
	for x := int64(-2); x <= 2; x++ {
		for y := int64(-2); y <= 2; y++ {
			put(big.NewInt(x), big.NewInt(y), big.NewInt(2))
		}
	}
	end, next := bigPart(-1), bigPart(-2)
	minus := func(n *big.Int) *big.Int { return new(big.Int).Neg(n) }
	small, none := big.NewInt(1), big.NewInt(0)
	for _, c := range [][3]*big.Int{
		{end, end, small}, {minus(end), end, small}, {end, minus(end), small}, {minus(end), minus(end), small},
		{next, end, small}, {end, next, small}, {end, none, next}, {none, end, next}, {next, none, end}, {small, small, end}, {small, small, next},
		{end, next, end}, {next, end, next}, {minus(end), next, next}, {small, none, end}, {none, small, end}, {small, none, next},
	} {
		put(c[0], c[1], c[2])
	}
	d := dice(3)
	for range 25 {
		p := d.point()
		put(bigOf(p.X), bigOf(p.Y), bigOf(p.W))
	}
	return out
}

func pointPairs(f func(p, q impl.Point)) {
	all := rightPoints()
	for _, p := range all {
		for _, q := range all {
			f(p, q)
		}
	}
}

func pointTriples(f func(p, q, r impl.Point)) {
	all := rightPoints()
	for i, p := range all {
		for j, q := range all {
			for k := (i + j) % 3; k < len(all); k += 3 {
				f(p, q, all[k])
			}
		}
	}
}

// linedUp are three points on one line, of the greatest parts that there is
// room for, and with the last one moved off by the least that its parts allow.
func linedUp(f func(p, q, r impl.Point)) {
	d := dice(17)
	for found := 0; found < 300; {
		p, q := d.point(), d.point()
		a, b := new(big.Int).SetUint64(d.word()>>(d.word()%64)), new(big.Int).SetUint64(d.word()>>(d.word()%64))
		sum := func(m, n impl.Wide) *big.Int {
			return new(big.Int).Sub(new(big.Int).Mul(a, bigOf(m)), new(big.Int).Mul(b, bigOf(n)))
		}
		r, ok := pointFrom(sum(p.X, q.X), sum(p.Y, q.Y), sum(p.W, q.W))
		if !ok {
			continue
		}
		found++
		f(p, q, r)
		for add := int64(-1); add <= 1; add += 2 {
			if off, ok := pointFrom(bigOf(r.X), new(big.Int).Add(bigOf(r.Y), big.NewInt(add)), bigOf(r.W)); ok {
				f(p, q, off)
			}
		}
	}
}

// wrongPoints are not right.
func wrongPoints() []impl.Point {
	out := []impl.Point{
		{}, point(1, 1, 0), point(0, 0, 2), point(0, 0, -1), point(1, 2, -1), point(2, 4, 2), point(2, 4, 6), point(-2, 0, 2), point(0, -3, 3), point(1, 0, 0), point(3, 6, -3),
		{X: least, W: one}, {Y: least, W: one}, {X: one, W: least}, {X: most, W: one}, {Y: most, W: one}, {X: one, Y: one, W: most}, {X: least, Y: least, W: least},
	}
	for _, n := range []*big.Int{bigPart(0), bigPart(1), new(big.Int).Neg(bigPart(0)), new(big.Int).Neg(bigPart(1))} {
		w, _ := wideOf(n)
		out = append(out, impl.Point{X: w, Y: one, W: one}, impl.Point{X: one, Y: w, W: one}, impl.Point{X: one, Y: one, W: w})
	}
	return out
}

func samePoint(t *testing.T, what string, got impl.Point, ok bool, want impl.Point, told bool) {
	t.Helper()
	if got != want || ok != told {
		t.Errorf("%s: %v %v, not %v %v", what, got, ok, want, told)
	}
}

func TestRightPoints(t *testing.T) {
	for _, p := range rightPoints() {
		if !impl.PointOk(p) {
			t.Error(p)
		}
	}
	for _, p := range wrongPoints() {
		if impl.PointOk(p) {
			t.Error(p)
		}
	}
	for x := int64(-6); x <= 6; x++ {
		for y := int64(-6); y <= 6; y++ {
			for w := int64(-6); w <= 6; w++ {
				p := point(x, y, w)
				lowest, ok := pointFrom(big.NewInt(x), big.NewInt(y), big.NewInt(w))
				if impl.PointOk(p) != (ok && lowest == p) {
					t.Error(p)
				}
			}
		}
	}
}

func TestPointsOfSpots(t *testing.T) {
	edges := []int64{0, 1, -1, 1000000, 1000001, math.MaxInt64, math.MinInt64, math.MinInt64 + 1}
	for _, x := range edges {
		for _, y := range edges {
			p := impl.PointOf(impl.Spot{X: x, Y: y})
			if p != point(x, y, 1) || !impl.PointOk(p) || bigOf(p.X).Int64() != x || bigOf(p.Y).Int64() != y {
				t.Error(x, y, p)
			}
		}
	}
}

func TestPointsMade(t *testing.T) {
	check := func(x, y, w impl.Wide) {
		got, ok := impl.PointMake(x, y, w)
		want, told := pointFrom(bigOf(x), bigOf(y), bigOf(w))
		samePoint(t, "made", got, ok, want, told)
		if ok && !impl.PointOk(got) {
			t.Error("not right", x, y, w, got)
		}
	}
	ends := []impl.Wide{zero, one, impl.WideOf(-1), impl.WideOf(2), impl.WideOf(-6), impl.WideOf(9), most, least, {W3: 1 << 62}, {W1: 1 << 15}, {W1: 1 << 16}, {W1: 1<<16 - 1, W0: 1<<64 - 1}}
	for _, x := range ends {
		for _, y := range ends {
			for _, w := range ends {
				check(x, y, w)
			}
		}
	}
	d := dice(5)
	for range 3000 {
		check(d.wide(), d.wide(), d.wide())
	}
	for range 3000 {
		p := d.point()
		by := new(big.Int).Rsh(d.part(), 1)
		wide := func(part impl.Wide) impl.Wide {
			n, _ := wideOf(new(big.Int).Mul(by, bigOf(part)))
			return n
		}
		got, ok := impl.PointMake(wide(p.X), wide(p.Y), wide(p.W))
		if by.Sign() == 0 {
			p = impl.Point{}
		}
		samePoint(t, "made again", got, ok, p, by.Sign() != 0)
	}
}

func TestPointsMadeJustWithinTheParts(t *testing.T) {
	for _, sign := range []int64{1, -1} {
		for add := int64(-2); add <= 1; add++ {
			// Three times a part, over 3 or -3: what counts is the part in lowest terms.
			three, _ := wideOf(new(big.Int).Mul(bigPart(add), big.NewInt(3*sign)))
			part, _ := wideOf(new(big.Int).Mul(bigPart(add), big.NewInt(sign)))
			turned, _ := wideOf(new(big.Int).Mul(bigPart(add), big.NewInt(-sign)))
			size, _ := wideOf(bigPart(add))
			want := func(p impl.Point) impl.Point {
				if add >= 0 {
					return impl.Point{}
				}
				return p
			}
			got, ok := impl.PointMake(three, impl.WideOf(6), impl.WideOf(3))
			samePoint(t, "x", got, ok, want(impl.Point{X: part, Y: impl.WideOf(2), W: one}), add < 0)
			got, ok = impl.PointMake(impl.WideOf(6), three, impl.WideOf(-3))
			samePoint(t, "y", got, ok, want(impl.Point{X: impl.WideOf(-2), Y: turned, W: one}), add < 0)
			got, ok = impl.PointMake(impl.WideOf(3), zero, three)
			samePoint(t, "w", got, ok, want(impl.Point{X: impl.WideOf(sign), W: size}), add < 0)
		}
	}
}

func TestPointOrder(t *testing.T) {
	pointPairs(func(p, q impl.Point) {
		want := placeOf(p).order(placeOf(q))
		if impl.PointCmp(p, q) != want || impl.PointCmp(q, p) != -want || impl.PointCmp(p, p) != 0 {
			t.Error(p, q, impl.PointCmp(p, q), want)
		}
		if (want == 0) != (p == q) {
			t.Error("two that are one", p, q)
		}
	})
	pointTriples(func(p, q, r impl.Point) {
		if impl.PointCmp(p, q) == -1 && impl.PointCmp(q, r) == -1 && impl.PointCmp(p, r) != -1 {
			t.Error("order", p, q, r)
		}
	})
}

func TestPointOrderWithinOneX(t *testing.T) {
	rising := []impl.Point{point(0, -1, 1), point(1, -1, 2), point(1, 0, 2), point(2, 1, 4), point(1, 1, 2), point(3, 4, 6), point(1, 2, 2), point(1, -9, 1), point(1, 0, 1)}
	for i, p := range rising {
		for j, q := range rising {
			want := int64(0)
			if i < j {
				want = -1
			} else if i > j {
				want = 1
			}
			if got := impl.PointCmp(p, q); got != want {
				t.Error(i, j, got)
			}
		}
	}
}

func checkTurns(t *testing.T, p, q, r impl.Point) {
	want := placeOf(p).turn(placeOf(q), placeOf(r))
	if impl.Orient(p, q, r) != want || impl.Orient(q, r, p) != want || impl.Orient(r, p, q) != want {
		t.Error("turn", p, q, r, impl.Orient(p, q, r), want)
	}
	if impl.Orient(q, p, r) != -want || impl.Orient(r, q, p) != -want || impl.Orient(p, r, q) != -want {
		t.Error("turn the other way", p, q, r, want)
	}
	lies := placeOf(p).between(placeOf(q), placeOf(r))
	if impl.Between(p, q, r) != lies || impl.Between(q, p, r) != lies {
		t.Error("between", p, q, r, lies)
	}
}

func TestTurns(t *testing.T) {
	t.Parallel()
	pointTriples(func(p, q, r impl.Point) { checkTurns(t, p, q, r) })
	turns := map[int64]int{}
	linedUp(func(p, q, r impl.Point) {
		checkTurns(t, p, q, r)
		turns[impl.Orient(p, q, r)]++
	})
	if turns[0] < 100 || turns[1] < 100 || turns[-1] < 100 {
		t.Error("too few of a kind", turns)
	}
}

func TestTurnsOfTwoThatAreOne(t *testing.T) {
	pointPairs(func(p, q impl.Point) {
		if impl.Orient(p, p, q) != 0 || impl.Orient(p, q, p) != 0 || impl.Orient(q, p, p) != 0 {
			t.Error("turn", p, q)
		}
		if !impl.Between(p, q, p) || !impl.Between(p, q, q) || impl.Between(p, p, q) != (p == q) {
			t.Error("between", p, q)
		}
	})
}

func TestBetweenOnOneLine(t *testing.T) {
	a, b := point(-2, -1, 3), point(4, 5, 3)
	for _, c := range []struct {
		p    impl.Point
		want bool
	}{
		{a, true}, {b, true}, {point(0, 1, 3), true}, {point(1, 2, 3), true}, {point(-3, -2, 3), false}, {point(5, 6, 3), false}, {point(0, 1, 2), false},
	} {
		if impl.Between(a, b, c.p) != c.want || impl.Between(b, a, c.p) != c.want {
			t.Error(c.p, c.want)
		}
	}
	low, high := point(1, -4, 2), point(1, 8, 2)
	for y := int64(-7); y <= 11; y += 2 {
		want := -4 <= y && y <= 8
		if impl.Between(low, high, point(1, y, 2)) != want || impl.Between(high, low, point(1, y, 2)) != want {
			t.Error("upright", y)
		}
	}
}

func TestDistances(t *testing.T) {
	told, untold := 0, 0
	pointPairs(func(p, q impl.Point) {
		got, ok := impl.Dist2(p, q)
		sameRatio(t, "distance", got, ok, placeOf(p).far2(placeOf(q)))
		if turned, ok2 := impl.Dist2(q, p); turned != got || ok2 != ok {
			t.Error("distance turned", p, q)
		}
		if ok {
			told++
		} else {
			untold++
		}
	})
	if told == 0 || untold == 0 {
		t.Error("too few of a kind", told, untold)
	}
}

func TestDistancesJustTold(t *testing.T) {
	// The parts of what comes out are squares of a product (and 1 more), told up to the root of 2^255.
	root := new(big.Int).Sqrt(power(255))
	shift := power(64)
	for add := int64(-3); add <= 3; add++ {
		odd := new(big.Int).Add(new(big.Int).Or(new(big.Int).Div(root, shift), big.NewInt(1)), big.NewInt(2*add))
		within := new(big.Int).Mul(odd, shift).Cmp(root) <= 0
		p, _ := pointFrom(big.NewInt(1), big.NewInt(0), shift)
		q, _ := pointFrom(big.NewInt(1), big.NewInt(0), odd)
		got, ok := impl.Dist2(p, q)
		sameRatio(t, "down", got, ok, placeOf(p).far2(placeOf(q)))
		if ok != within {
			t.Error("down", add, ok)
		}
		p, _ = pointFrom(shift, big.NewInt(0), big.NewInt(1))
		q, _ = pointFrom(big.NewInt(0), big.NewInt(1), odd)
		got, ok = impl.Dist2(p, q)
		sameRatio(t, "up", got, ok, placeOf(p).far2(placeOf(q)))
		if ok != within {
			t.Error("up", add, ok)
		}
	}
}

func TestMiddles(t *testing.T) {
	half := big.NewRat(1, 2)
	told, untold := 0, 0
	pointPairs(func(p, q impl.Point) {
		a, b := placeOf(p), placeOf(q)
		want, fits := pointAt(place{ratTimes(half, ratPlus(a.x, b.x)), ratTimes(half, ratPlus(a.y, b.y))})
		m, ok := impl.Middle(p, q)
		samePoint(t, "middle", m, ok, want, fits)
		if turned, ok2 := impl.Middle(q, p); turned != m || ok2 != ok {
			t.Error("middle turned", p, q)
		}
		if !ok {
			untold++
			return
		}
		told++
		if !impl.Between(p, q, m) {
			t.Error("middle not between", p, q, m)
		}
		one, ok1 := impl.Dist2(p, m)
		other, ok2 := impl.Dist2(m, q)
		if one != other || ok1 != ok2 {
			t.Error("middle not as far from both", p, q, m)
		}
	})
	if told == 0 || untold == 0 {
		t.Error("too few of a kind", told, untold)
	}
}

func TestMiddlesJustTold(t *testing.T) {
	whole := func(add int64) impl.Point {
		p, _ := pointFrom(bigPart(add), new(big.Int).Neg(bigPart(add)), big.NewInt(1))
		return p
	}
	under := func(n uint) impl.Point {
		p, _ := pointFrom(big.NewInt(1), big.NewInt(0), power(n))
		return p
	}
	for _, c := range []struct {
		p, q, want impl.Point
		ok         bool
	}{
		{whole(-1), whole(-1), whole(-1), true},
		{whole(-1), whole(-2), impl.Point{}, false},
		{whole(-1), whole(-3), whole(-2), true},
		{under(78), point(0, 0, 1), under(79), true},
		{under(79), point(0, 0, 1), impl.Point{}, false},
		{under(79), under(79), under(79), true},
	} {
		got, ok := impl.Middle(c.p, c.q)
		samePoint(t, "middle", got, ok, c.want, c.ok)
	}
}

func TestPointTexts(t *testing.T) {
	for _, p := range rightPoints() {
		want := bigOf(p.X).String() + "," + bigOf(p.Y).String()
		if p.W != one {
			want += "/" + bigOf(p.W).String()
		}
		text := impl.PointText(p)
		if text != want {
			t.Error(p, text, want)
		}
		back, ok := impl.ReadPoint(text)
		samePoint(t, text, back, ok, p, true)
	}
}

func TestReadPointOfWrongTexts(t *testing.T) {
	end := bigPart(0).String()
	for _, s := range []string{
		"", ",", "/", "1", "1,", ",1", "1/2", "1,/2", ",1/2", "1,2/", "1,2/1", "0,0/2", "2,4/2", "2,4/6", "1,2/0", "1,2/-3", "1,2/-1", "0,0/0", "-0,1", "1,-0", "01,2", "1,02", "1,2/03",
		"1, 2", " 1,2", "1,2 ", "1 ,2", "+1,2", "1,+2", "1,2,3", "1,2/3/5", "1,2/3,5", "1/3,2", "1/3,2/3", "1;2", "1.5,2", "a,2", "1,b", "1,2/c", "1,2\n", "--1,2", "-,2", "1,-", "(1,2)",
		end + ",1", "-" + end + ",1", "1," + end, "1,-" + end, "1,1/" + end, power(255).String() + ",1", "1,1/" + power(256).String(),
	} {
		if got, ok := impl.ReadPoint(s); ok || got != (impl.Point{}) {
			t.Errorf("%q: %v %v", s, got, ok)
		}
	}
	for s, want := range map[string]impl.Point{"0,0": point(0, 0, 1), "-1,2": point(-1, 2, 1), "2,4/3": point(2, 4, 3), "0,-1/2": point(0, -1, 2)} {
		got, ok := impl.ReadPoint(s)
		samePoint(t, s, got, ok, want, true)
	}
}

func TestWrongPointsAreRefused(t *testing.T) {
	right := []impl.Point{point(0, 0, 1), point(1, 1, 2), point(5, -7, 3)}
	for _, wrong := range wrongPoints() {
		if text := impl.PointText(wrong); text != "" {
			t.Error(wrong, text)
		}
		for _, p := range append(wrongPoints(), right...) {
			for _, pair := range [][2]impl.Point{{wrong, p}, {p, wrong}} {
				if got := impl.PointCmp(pair[0], pair[1]); got != 0 {
					t.Error("order", pair, got)
				}
				if got, ok := impl.Dist2(pair[0], pair[1]); ok || got != (impl.Ratio{}) {
					t.Error("distance", pair, got, ok)
				}
				if got, ok := impl.Middle(pair[0], pair[1]); ok || got != (impl.Point{}) {
					t.Error("middle", pair, got, ok)
				}
				for _, q := range append(right, wrong, p) {
					for _, c := range [][3]impl.Point{{pair[0], pair[1], q}, {pair[0], q, pair[1]}, {q, pair[0], pair[1]}} {
						if impl.Orient(c[0], c[1], c[2]) != 0 || impl.Between(c[0], c[1], c[2]) {
							t.Error("turn", c)
						}
					}
				}
			}
		}
	}
}
