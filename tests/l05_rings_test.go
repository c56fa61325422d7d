package tests

import (
	"math"
	"math/big"
	"slices"
	"testing"

	"loop.example/g00225/impl"
)

func ring(n ...int64) impl.Ring {
	var r impl.Ring
	for i := 0; i+1 < len(n); i += 2 {
		r.Spots = append(r.Spots, spot(n[i], n[i+1]))
	}
	return r
}

// bow has n spots on a curve that turns left all the way, so that it is right if it is no wrong number of them.
func bow(n int64) impl.Ring {
	var r impl.Ring
	for i := range n {
		r.Spots = append(r.Spots, spot(i, i*i))
	}
	return r
}

func after(r impl.Ring, i int) impl.Spot {
	return r.Spots[(i+1)%len(r.Spots)]
}

// from is the ring that begins at the spot i.
func from(r impl.Ring, i int) impl.Ring {
	return impl.Ring{Spots: slices.Concat(r.Spots[i:], r.Spots[:i])}
}

func turnedWanted(r impl.Ring) impl.Ring {
	var out impl.Ring
	for i := range r.Spots {
		out.Spots = append(out.Spots, r.Spots[(len(r.Spots)-i)%len(r.Spots)])
	}
	return out
}

func moved(r impl.Ring, by impl.Spot, times int64) impl.Ring {
	var out impl.Ring
	for _, s := range r.Spots {
		out.Spots = append(out.Spots, spot(by.X+times*s.X, by.Y+times*s.Y))
	}
	return out
}

func sameRing(a, b impl.Ring) bool {
	return slices.Equal(a.Spots, b.Spots)
}

// turnOf is above 0 where three right spots turn to the left; its products are no more than 8 edge^2.
func turnOf(a, b, c impl.Spot) int64 {
	return (b.X-a.X)*(c.Y-a.Y) - (b.Y-a.Y)*(c.X-a.X)
}

func isBetween(a, b, c impl.Spot) bool {
	return turnOf(a, b, c) == 0 && min(a.X, b.X) <= c.X && c.X <= max(a.X, b.X) && min(a.Y, b.Y) <= c.Y && c.Y <= max(a.Y, b.Y)
}

// touch tells whether the ways from a to b and from c to d have a point in common.
func touch(a, b, c, d impl.Spot) bool {
	apart := func(m, n int64) bool { return m < 0 && n > 0 || m > 0 && n < 0 }
	if apart(turnOf(a, b, c), turnOf(a, b, d)) && apart(turnOf(c, d, a), turnOf(c, d, b)) {
		return true
	}
	return isBetween(a, b, c) || isBetween(a, b, d) || isBetween(c, d, a) || isBetween(c, d, b)
}

// goesBack tells whether the way from a to b goes back over itself to c.
func goesBack(a, b, c impl.Spot) bool {
	return turnOf(a, b, c) == 0 && (a.X-b.X)*(c.X-b.X)+(a.Y-b.Y)*(c.Y-b.Y) > 0
}

func crossWanted(r impl.Ring) bool {
	n := len(r.Spots)
	for i, a := range r.Spots {
		if goesBack(a, after(r, i), after(r, (i+1)%n)) {
			return true
		}
		for j, c := range r.Spots {
			next := j == (i+1)%n || i == (j+1)%n
			if i != j && !next && touch(a, after(r, i), c, after(r, j)) {
				return true
			}
		}
	}
	return false
}

func faultWanted(r impl.Ring) int64 {
	if len(r.Spots) < 3 {
		return impl.RgFew
	}
	if len(r.Spots) > 12 {
		return impl.RgMany
	}
	seen := map[impl.Spot]int{}
	for _, s := range r.Spots {
		if max(s.X, s.Y) > edge || min(s.X, s.Y) < -edge {
			return impl.RgCoord
		}
		seen[s]++
	}
	if len(seen) < len(r.Spots) {
		return impl.RgTwice
	}
	if crossWanted(r) {
		return impl.RgCross
	}
	return impl.RgOk
}

// areaWanted adds up what lies between each side and the lowest level there is, taken off where a side goes to the right.
func areaWanted(r impl.Ring) int64 {
	sum := int64(0)
	for i, a := range r.Spots {
		b := after(r, i)
		sum += (a.X - b.X) * (a.Y + b.Y + 2*edge)
	}
	return sum
}

func formWanted(r impl.Ring) impl.Ring {
	if areaWanted(r) < 0 {
		r = turnedWanted(r)
	}
	for i, first := range r.Spots {
		ahead := true
		for _, s := range r.Spots {
			ahead = ahead && (first.X < s.X || first.X == s.X && first.Y <= s.Y)
		}
		if ahead {
			return from(r, i)
		}
	}
	return impl.Ring{}
}

// sideWanted counts how often the ring winds round p, by the sides that a level way to the right of it meets.
func sideWanted(r impl.Ring, p impl.Point) int64 { return ringSideAt(r, placeOf(p)) }

func ringSideAt(r impl.Ring, at place) int64 {
	winds := int64(0)
	for i, s := range r.Spots {
		a, b := placeAt(s), placeAt(after(r, i))
		if a.between(b, at) {
			return impl.SdOn
		}
		up := a.y.Cmp(at.y) <= 0 && at.y.Cmp(b.y) < 0
		down := b.y.Cmp(at.y) <= 0 && at.y.Cmp(a.y) < 0
		if up && a.turn(b, at) > 0 {
			winds++
		}
		if down && a.turn(b, at) < 0 {
			winds--
		}
	}
	if winds != 0 {
		return impl.SdIn
	}
	return impl.SdOut
}

func meetsWanted(a, b impl.Ring) bool {
	for i, s := range a.Spots {
		for j, q := range b.Spots {
			if touch(s, after(a, i), q, after(b, j)) {
				return true
			}
		}
	}
	return false
}

func inWanted(a, b impl.Ring) bool {
	for _, s := range a.Spots {
		if sideWanted(b, impl.PointOf(s)) != impl.SdIn {
			return false
		}
	}
	return !meetsWanted(a, b)
}

// latticeRings are all rows of 2 to 4 spots of a lattice of 3 by 3, the most of them not right, and thrown ones.
func latticeRings(f func(r impl.Ring)) {
	var more func(r impl.Ring)
	more = func(r impl.Ring) {
		if len(r.Spots) >= 2 {
			f(r)
		}
		for i := int64(0); i < 9 && len(r.Spots) < 4; i++ {
			more(impl.Ring{Spots: append(slices.Clone(r.Spots), spot(i/3-1, i%3))})
		}
	}
	more(impl.Ring{})
	d := dice(41)
	for range 4000 {
		var r impl.Ring
		size := d.size()
		for range d.word() % 14 {
			r.Spots = append(r.Spots, d.spot(size))
		}
		f(r)
	}
}

// ring grows a right ring of n spots (fewer where there is no room) by putting in one after the other where it does no harm.
func (d *dice) ring(n int, size int64) impl.Ring {
	r := ring(0, 0, 0, 0, 0, 0)
	for faultWanted(r) != impl.RgOk {
		r = impl.Ring{Spots: []impl.Spot{d.spot(size), d.spot(size), d.spot(size)}}
	}
	for range 6 * n {
		if len(r.Spots) == n {
			break
		}
		more := impl.Ring{Spots: slices.Insert(slices.Clone(r.Spots), int(d.word()%uint64(len(r.Spots)+1)), d.spot(size))}
		if faultWanted(more) == impl.RgOk {
			r = more
		}
	}
	return r
}

// rightRings are of our own, at the ends of all there is, and grown; they go both ways round.
func rightRings() []impl.Ring {
	out := []impl.Ring{
		ring(0, 0, 2, 0, 2, 2, 0, 2), ring(0, 0, 0, 3, 1, 1), ring(0, 0, 1, 0, 2, 0, 2, 2, 1, 2), ring(0, 0, 3, 0, 3, 1, 1, 1, 1, 3, 0, 3),
		ring(0, 0, 6, 0, 6, 4, 5, 1, 4, 4, 3, 1, 2, 4, 1, 1, 0, 4), ring(0, 0, 5, 0, 5, 5, 1, 5, 1, 2, 3, 2, 3, 3, 2, 3, 2, 4, 4, 4, 4, 1, 0, 1),
		ring(0, 2, 2, 0, 4, 2, 2, 4), ring(0, 0, 4, 2, 0, 4, 2, 2), ring(0, 0, 2, 0, 2, 1, 4, 1, 4, 0, 6, 0, 6, 2, 0, 2),
		ring(-edge, -edge, edge, -edge, edge, edge, -edge, edge), ring(-edge, -edge, edge, edge, edge-1, edge), ring(-edge, edge, edge, -edge, edge, 1-edge, 0, 1), bow(12), bow(3),
	}
	d := dice(43)
	for i := range 70 {
		out = append(out, d.ring(3+i%10, d.size()+2))
	}
	return out
}

// wrongRings are not right, a fault after the other.
func wrongRings() []impl.Ring {
	out := []impl.Ring{
		{}, ring(0, 0), ring(0, 0, 1, 1), bow(13), bow(40), ring(0, 0, 1, 0, 0, 0), ring(0, 0, 1, 0, 1, 1, 0, 0), ring(0, 0, 2, 0, 1, 0), ring(0, 0, 2, 2, 2, 0, 0, 2),
		ring(0, 0, 4, 0, 4, 4, 2, 0, 0, 4), ring(0, 0, 0, 0, 0, 0), ring(edge, 0, 0, 1, edge, 0),
	}
	for _, wrong := range wrongSpots() {
		for i := range 4 {
			r := ring(0, 0, 1, 0, 0, 1)
			r.Spots = slices.Insert(r.Spots, i, wrong)
			out = append(out, r)
		}
	}
	return out
}

func TestOurRings(t *testing.T) {
	for _, r := range rightRings() {
		if faultWanted(r) != impl.RgOk {
			t.Error("not right", r)
		}
	}
	for _, r := range wrongRings() {
		if faultWanted(r) == impl.RgOk {
			t.Error("right", r)
		}
	}
}

func TestRingConstants(t *testing.T) {
	codes := []int64{impl.RgOk, impl.RgFew, impl.RgMany, impl.RgCoord, impl.RgTwice, impl.RgCross}
	if !slices.Equal(codes, []int64{0, 1, 2, 3, 4, 5}) || impl.MaxRing != 12 {
		t.Error("rings", codes)
	}
	if impl.SdOut != -1 || impl.SdOn != 0 || impl.SdIn != 1 || impl.SdNone != 2 {
		t.Error("sides")
	}
}

func TestRingFaults(t *testing.T) {
	seen := map[int64]int{}
	check := func(r impl.Ring) {
		got, want := impl.RingFault(r), faultWanted(r)
		if got != want {
			t.Error(r, got, want)
		}
		seen[got]++
	}
	latticeRings(check)
	for _, r := range rightRings() {
		check(r)
	}
	for _, r := range wrongRings() {
		check(r)
	}
	for code := int64(impl.RgOk); code <= impl.RgCross; code++ {
		if seen[code] < 25 {
			t.Error("too few of a kind", seen)
		}
	}
}

func TestRingFaultsOfOurOwn(t *testing.T) {
	for i, c := range []struct {
		r    impl.Ring
		code int64
	}{
		{impl.Ring{}, impl.RgFew}, {impl.Ring{Spots: []impl.Spot{}}, impl.RgFew}, {ring(0, 0), impl.RgFew}, {ring(0, 0, 3, 4), impl.RgFew},
		{ring(0, 0, 3, 4, 0, 1), impl.RgOk}, {bow(3), impl.RgOk}, {bow(11), impl.RgOk}, {bow(12), impl.RgOk}, {bow(13), impl.RgMany}, {bow(1000), impl.RgMany},
		{ring(edge, edge, -edge, edge, 0, -edge), impl.RgOk}, {ring(edge+1, 0, 0, 1, 0, 0), impl.RgCoord}, {ring(0, 0, 0, -edge-1, 5, 5), impl.RgCoord},
		{ring(0, 0, 1, 0, 0, 1, math.MinInt64, 0), impl.RgCoord}, {ring(0, 0, 1, 0, 0, math.MaxInt64), impl.RgCoord},
		{ring(0, 0, 0, 0, 1, 1), impl.RgTwice}, {ring(0, 0, 1, 1, 0, 0), impl.RgTwice}, {ring(0, 0, 1, 0, 1, 1, 0, 0), impl.RgTwice}, {ring(0, 0, 2, 0, 1, 1, 2, 2, 0, 2, 1, 1), impl.RgTwice},
		// Spots on one line that go on are no fault, those that go back are, wherever the ring begins.
		{ring(0, 0, 1, 0, 2, 0, 0, 2), impl.RgOk}, {ring(1, 0, 2, 0, 0, 2, 0, 1, 0, 0), impl.RgOk},
		{ring(0, 0, 1, 0, 2, 0), impl.RgCross}, {ring(0, 0, 2, 0, 1, 0), impl.RgCross}, {ring(0, 0, 0, 1, 0, 2), impl.RgCross}, {ring(0, 0, 2, 2, 1, 1), impl.RgCross},
		{ring(0, 0, 4, 0, 2, 0, 2, 3), impl.RgCross}, {ring(4, 0, 2, 0, 2, 3, 0, 0), impl.RgCross}, {ring(2, 0, 2, 3, 0, 0, 4, 0), impl.RgCross}, {ring(2, 3, 0, 0, 4, 0, 2, 0), impl.RgCross},
		{ring(0, 0, 4, 0, 4, 4, 4, 2, 0, 2), impl.RgCross}, {ring(0, 0, 3, 3, 1, 1, 0, 5), impl.RgCross}, {ring(0, 0, 3, 3, -1, -1, 0, 5), impl.RgCross},
		// Sides that cross, that touch by an end, and that lie along each other.
		{ring(0, 0, 2, 2, 2, 0, 0, 2), impl.RgCross}, {ring(0, 0, 4, 0, 4, 4, 2, 0, 0, 4), impl.RgCross}, {ring(0, 0, 4, 0, 4, 1, 3, 0, 1, 0, 0, 1), impl.RgCross},
		{ring(0, 0, 4, 0, 4, 4, 2, 1, 0, 4), impl.RgOk}, {ring(0, 0, 4, 0, 4, 4, 2, -1, 0, 4), impl.RgCross}, {ring(0, 0, 6, 0, 6, 4, 3, 4, 3, 2, 0, 2, 3, 1), impl.RgOk},
		{ring(-edge, -edge, edge, edge, edge-1, edge), impl.RgOk}, {ring(-edge, -edge, edge, edge, 0, 0), impl.RgCross},
		{ring(-edge, -edge, edge, edge, edge-1, edge, -1, 0), impl.RgOk}, {ring(-edge, -edge, edge, edge, edge-1, edge, 1, 0), impl.RgCross},
	} {
		if got := impl.RingFault(c.r); got != c.code {
			t.Error(i, c.r, got, c.code)
		}
	}
}

func TestRingFaultsInTheirOrder(t *testing.T) {
	coordAndTwice := ring(1, 1, 1, 1, 0, 0, 2, 2, 2, 0, 0, 2, 0, -edge-1)
	many := coordAndTwice
	for len(many.Spots) < 13 {
		many.Spots = append(slices.Clone(many.Spots), spot(0, 0))
	}
	twiceAndCross := ring(0, 0, 2, 2, 2, 0, 0, 2, 5, 5, 2, 0)
	for i, c := range []struct {
		r    impl.Ring
		code int64
	}{
		{ring(edge+1, 0, edge+1, 0), impl.RgFew}, {ring(3, 3, 3, 3), impl.RgFew}, {many, impl.RgMany}, {impl.Ring{Spots: make([]impl.Spot, 13)}, impl.RgMany},
		{impl.Ring{Spots: make([]impl.Spot, 12)}, impl.RgTwice}, {coordAndTwice, impl.RgCoord}, {ring(edge+1, 0, edge+1, 0, edge+1, 0), impl.RgCoord},
		{ring(0, 0, 2, 2, 2, 0, 0, 2, edge+1, 0), impl.RgCoord}, {twiceAndCross, impl.RgTwice}, {ring(0, 0, 2, 0, 1, 0, 0, 0), impl.RgTwice},
	} {
		if got := impl.RingFault(c.r); got != c.code {
			t.Error(i, c.r, got, c.code)
		}
	}
}

func TestRingAreas(t *testing.T) {
	for _, c := range []struct {
		r    impl.Ring
		area int64
	}{
		{ring(0, 0, 2, 0, 2, 2, 0, 2), 8}, {ring(0, 2, 2, 2, 2, 0, 0, 0), -8}, {ring(0, 0, 1, 0, 0, 1), 1}, {ring(0, 0, 0, 1, 1, 0), -1}, {ring(0, 0, 1, 0, 2, 0, 2, 2), 4},
		{ring(0, 0, 3, 0, 3, 1, 1, 1, 1, 3, 0, 3), 10}, {ring(-edge, -edge, edge, -edge, edge, edge, -edge, edge), 8 * edge * edge}, {ring(-edge, edge, edge, edge, edge, -edge, -edge, -edge), -8 * edge * edge},
		{ring(-edge, -edge, edge, edge, edge-1, edge), 2 * edge}, {ring(edge, edge, edge-1, edge, edge, edge-1), 1}, {bow(3), 2}, {bow(4), 8},
	} {
		if got := impl.RingArea2(c.r); got != c.area {
			t.Error(c.r, got, c.area)
		}
	}
	for _, r := range rightRings() {
		if got, want := impl.RingArea2(r), areaWanted(r); got != want || got == 0 {
			t.Error(r, got, want)
		}
	}
}

// TestRingAreasByCounting leans on what lies in a ring: twice its area is twice the spots within and those on it, less 2.
func TestRingAreasByCounting(t *testing.T) {
	counted := 0
	for _, r := range rightRings() {
		if slices.ContainsFunc(r.Spots, func(s impl.Spot) bool { return max(s.X, -s.X, s.Y, -s.Y) > 15 }) {
			continue
		}
		sum := int64(-2)
		for x := int64(-16); x <= 16; x++ {
			for y := int64(-16); y <= 16; y++ {
				switch impl.RingSide(r, impl.PointOf(spot(x, y))) {
				case impl.SdIn:
					sum += 2
				case impl.SdOn:
					sum++
				}
			}
		}
		if area := impl.RingArea2(r); max(area, -area) != sum {
			t.Error(r, area, sum)
		}
		counted++
	}
	if counted < 20 {
		t.Error("too few", counted)
	}
}

func TestRingsTurnedAndFormed(t *testing.T) {
	ways := map[bool]int{}
	latticeRings(func(r impl.Ring) {
		if len(r.Spots) < 3 || faultWanted(r) != impl.RgOk {
			return
		}
		ways[areaWanted(r) > 0]++
		turned, form := impl.RingTurned(r), impl.RingForm(r)
		if !sameRing(turned, turnedWanted(r)) || !sameRing(impl.RingTurned(turned), r) || impl.RingArea2(turned) != -impl.RingArea2(r) {
			t.Error("turned", r, turned)
		}
		if !sameRing(form, formWanted(r)) || impl.RingArea2(form) <= 0 || !sameRing(impl.RingForm(turned), form) || !sameRing(impl.RingForm(form), form) {
			t.Error("form", r, form)
		}
	})
	if ways[true] < 100 || ways[false] < 100 {
		t.Error("too few of a kind", ways)
	}
	for _, c := range []struct{ r, turned, form impl.Ring }{
		{ring(2, 2, 2, 0, 0, 0, 0, 2), ring(2, 2, 0, 2, 0, 0, 2, 0), ring(0, 0, 2, 0, 2, 2, 0, 2)},
		{ring(0, 1, 3, 1, 1, 0), ring(0, 1, 1, 0, 3, 1), ring(0, 1, 1, 0, 3, 1)},
		{ring(0, 1, 0, 0, -1, 5, -1, 6), ring(0, 1, -1, 6, -1, 5, 0, 0), ring(-1, 5, 0, 0, 0, 1, -1, 6)},
	} {
		if got := impl.RingTurned(c.r); !sameRing(got, c.turned) {
			t.Error("turned", c.r, got)
		}
		if got := impl.RingForm(c.r); !sameRing(got, c.form) {
			t.Error("form", c.r, got)
		}
	}
}

// TestRingsFromEachSpotOn takes rings of all faults.
func TestRingsFromEachSpotOn(t *testing.T) {
	check := func(r impl.Ring) {
		fault, area, form := impl.RingFault(r), impl.RingArea2(r), impl.RingForm(r)
		if back := impl.RingFault(turnedWanted(r)); back != fault {
			t.Error("turned", r, fault, back)
		}
		for i := range r.Spots {
			other := from(r, i)
			if impl.RingFault(other) != fault || impl.RingArea2(other) != area || !sameRing(impl.RingForm(other), form) {
				t.Error(r, i, impl.RingFault(other), fault)
			}
		}
	}
	latticeRings(check)
	for _, r := range append(rightRings(), wrongRings()...) {
		check(r)
	}
}

// nearPoints are points on the corners and sides of a ring, on the lines of its sides beyond them, level with its corners
// and over them, and as near to its corners as parts of 80 bits can say.
func nearPoints(r impl.Ring) []impl.Point {
	var out []impl.Point
	put := func(x, y *big.Rat) {
		if p, ok := pointAt(place{x, y}); ok {
			out = append(out, p)
		}
	}
	fine := new(big.Rat).SetFrac(big.NewInt(1), power(59))
	far := new(big.Rat).SetInt(bigPart(-1))
	none := new(big.Rat)
	for i, s := range r.Spots {
		side, _ := impl.SegOf(s, after(r, i))
		for _, u := range []*big.Rat{big.NewRat(-1, 1), big.NewRat(-1, 7), big.NewRat(1, 3), big.NewRat(1, 2), big.NewRat(6, 5), big.NewRat(2, 1)} {
			p := along(side, u)
			put(p.x, p.y)
			put(p.x, ratPlus(p.y, big.NewRat(1, 97)))
			put(p.x, ratLess(p.y, big.NewRat(1, 97)))
		}
		at := placeAt(s)
		for _, off := range []*big.Rat{none, fine, new(big.Rat).Neg(fine), big.NewRat(1, 2), big.NewRat(-1, 2), big.NewRat(2, 1), big.NewRat(-2, 1)} {
			put(ratPlus(at.x, off), at.y)
			put(at.x, ratPlus(at.y, off))
			put(ratPlus(at.x, off), ratPlus(at.y, fine))
		}
		put(far, at.y)
		put(new(big.Rat).Neg(far), at.y)
		put(at.x, far)
		put(at.x, new(big.Rat).Neg(far))
	}
	return out
}

func TestRingSides(t *testing.T) {
	t.Parallel()
	seen := map[int64]int{}
	for _, r := range rightRings() {
		turned, later := impl.RingTurned(r), from(r, len(r.Spots)/2)
		for _, p := range nearPoints(r) {
			got, want := impl.RingSide(r, p), sideWanted(r, p)
			if got != want {
				t.Error(r, p, got, want)
			}
			if impl.RingSide(turned, p) != got || impl.RingSide(later, p) != got {
				t.Error("turned or begun elsewhere", r, p, got)
			}
			seen[got]++
		}
	}
	if seen[impl.SdIn] < 1000 || seen[impl.SdOn] < 1000 || seen[impl.SdOut] < 1000 || len(seen) != 3 {
		t.Error("too few of a kind", seen)
	}
	for _, p := range rightPoints() {
		for _, r := range rightRings()[:14] {
			if got, want := impl.RingSide(r, p), sideWanted(r, p); got != want {
				t.Error("any point", r, p, got, want)
			}
		}
	}
}

func TestRingSidesOfOurOwn(t *testing.T) {
	comb := ring(0, 0, 6, 0, 6, 4, 5, 1, 4, 4, 3, 1, 2, 4, 1, 1, 0, 4)
	diamond := ring(0, 2, 2, 0, 4, 2, 2, 4)
	stairs := ring(0, 0, 4, 0, 4, 2, 2, 2, 2, 4, 0, 4)
	for _, c := range []struct {
		r    impl.Ring
		p    impl.Point
		want int64
	}{
		{diamond, point(2, 2, 1), impl.SdIn}, {diamond, point(0, 2, 1), impl.SdOn}, {diamond, point(1, 1, 1), impl.SdOn}, {diamond, point(-1, 2, 1), impl.SdOut}, {diamond, point(5, 2, 1), impl.SdOut},
		{diamond, point(2, -1, 1), impl.SdOut}, {diamond, point(2, 5, 1), impl.SdOut}, {diamond, point(3, -1, 1), impl.SdOut}, {diamond, point(5, 1, 1), impl.SdOut}, {diamond, point(1, 2, 1), impl.SdIn},
		{diamond, point(2, 1, 1), impl.SdIn}, {diamond, point(1, 2, 2), impl.SdOut}, {diamond, point(3, 3, 2), impl.SdIn}, {diamond, point(1, 3, 2), impl.SdOn},
		{stairs, point(3, 2, 1), impl.SdOn}, {stairs, point(2, 3, 1), impl.SdOn}, {stairs, point(2, 2, 1), impl.SdOn}, {stairs, point(1, 2, 1), impl.SdIn}, {stairs, point(2, 1, 1), impl.SdIn},
		{stairs, point(5, 2, 1), impl.SdOut}, {stairs, point(2, 5, 1), impl.SdOut}, {stairs, point(2, -1, 1), impl.SdOut}, {stairs, point(-1, 2, 1), impl.SdOut}, {stairs, point(3, 3, 1), impl.SdOut},
		{stairs, point(4, 3, 1), impl.SdOut}, {stairs, point(0, 5, 1), impl.SdOut}, {stairs, point(0, -1, 1), impl.SdOut}, {stairs, point(-1, 0, 1), impl.SdOut}, {stairs, point(4, -1, 1), impl.SdOut},
		{comb, point(1, 4, 1), impl.SdOut}, {comb, point(0, 4, 1), impl.SdOn}, {comb, point(2, 1, 1), impl.SdIn}, {comb, point(1, 1, 1), impl.SdOn}, {comb, point(2, 3, 1), impl.SdIn}, {comb, point(3, 3, 1), impl.SdOut},
		{comb, point(2, 5, 1), impl.SdOut}, {comb, point(3, -1, 1), impl.SdOut}, {comb, point(2, -1, 1), impl.SdOut}, {comb, point(-1, 1, 1), impl.SdOut}, {comb, point(7, 1, 1), impl.SdOut}, {comb, point(7, 4, 1), impl.SdOut},
	} {
		for i := range c.r.Spots {
			if got := impl.RingSide(from(c.r, i), c.p); got != c.want {
				t.Error(c.r, i, c.p, got, c.want)
			}
			if got := impl.RingSide(turnedWanted(from(c.r, i)), c.p); got != c.want {
				t.Error("turned", c.r, i, c.p, got, c.want)
			}
		}
	}
}

func segsWanted(r impl.Ring) []impl.Seg {
	var out []impl.Seg
	for i, a := range r.Spots {
		b := after(r, i)
		if a.X > b.X || a.X == b.X && a.Y > b.Y {
			a, b = b, a
		}
		out = append(out, impl.Seg{A: a, B: b})
	}
	return out
}

func TestRingSegs(t *testing.T) {
	for _, r := range rightRings() {
		got := impl.RingSegs(r)
		if !slices.Equal(got, segsWanted(r)) {
			t.Error(r, got)
		}
		for _, s := range got {
			if !impl.SegOk(s) {
				t.Error("not right", r, s)
			}
		}
	}
	if got := impl.RingSegs(ring(2, 0, 0, 0, 0, 3)); !slices.Equal(got, []impl.Seg{seg(0, 0, 2, 0), seg(0, 0, 0, 3), seg(0, 3, 2, 0)}) {
		t.Error(got)
	}
}

// ringPairs are all pairs of rings of one lattice, and grown ones of the same size and of others.
func ringPairs(f func(a, b impl.Ring)) {
	var small []impl.Ring
	for x := int64(0); x <= 3; x++ {
		for y := int64(0); y <= 3; y++ {
			small = append(small, moved(ring(0, 0, 1, 0, 0, 1), spot(x, y), 1), moved(ring(0, 0, 0, 1, 1, 1), spot(x, y), 2), moved(ring(0, 0, 3, 0, 3, 3, 0, 3), spot(x-1, y-1), 1))
		}
	}
	small = append(small, ring(-1, -1, 6, -1, 6, 6, -1, 6), ring(-1, 6, 6, 6, 6, 5, 0, 5, 0, 0, 6, 0, 6, -1, -1, -1), ring(1, 1, 2, 1, 2, 2, 1, 2))
	d := dice(47)
	for range 25 {
		small = append(small, d.ring(3+int(d.word()%8), 5))
	}
	for _, a := range small {
		for _, b := range small {
			f(a, b)
		}
	}
	for range 400 {
		size := d.size() + 2
		b := d.ring(3+int(d.word()%10), size)
		a := moved(d.ring(3+int(d.word()%10), max(2, size/9)), d.spot(size-size/9), 1)
		if faultWanted(a) == impl.RgOk {
			f(a, b)
			f(b, a)
		}
	}
}

func TestRingsThatMeetAndLieWithin(t *testing.T) {
	meets, within, outside := 0, 0, 0
	ringPairs(func(a, b impl.Ring) {
		meet, in := impl.RingsMeet(a, b), impl.RingIn(a, b)
		if meet != meetsWanted(a, b) || meet != impl.RingsMeet(b, a) {
			t.Error("meet", a, b, meet)
		}
		if in != inWanted(a, b) {
			t.Error("in", a, b, in)
		}
		if size, other := impl.RingArea2(impl.RingForm(a)), impl.RingArea2(impl.RingForm(b)); in && size >= other {
			t.Error("greater than the one it lies in", a, b, size, other)
		}
		if impl.RingsMeet(impl.RingTurned(a), b) != meet || impl.RingIn(impl.RingTurned(a), from(b, 1)) != in {
			t.Error("turned or begun elsewhere", a, b)
		}
		switch {
		case meet:
			meets++
		case in:
			within++
		default:
			outside++
		}
	})
	if meets < 100 || within < 100 || outside < 100 {
		t.Error("too few of a kind", meets, within, outside)
	}
}

func TestRingsThatMeetOfOurOwn(t *testing.T) {
	square := ring(0, 0, 8, 0, 8, 8, 0, 8)
	notch := ring(0, 0, 8, 0, 8, 8, 6, 8, 6, 2, 2, 2, 2, 8, 0, 8)
	for i, c := range []struct {
		a, b     impl.Ring
		meet, in bool
	}{
		{square, square, true, false}, {square, from(turnedWanted(square), 2), true, false},
		{ring(1, 1, 2, 1, 1, 2), square, false, true}, {square, ring(1, 1, 2, 1, 1, 2), false, false}, {ring(9, 9, 10, 9, 9, 10), square, false, false},
		// Touching from within and from outside: at a corner, by a corner on a side, along a part of a side and a whole one.
		{ring(0, 0, 3, 1, 1, 3), square, true, false}, {ring(0, 4, 3, 3, 3, 5), square, true, false}, {ring(0, 3, 3, 3, 3, 5, 0, 5), square, true, false}, {ring(0, 0, 8, 0, 4, 4), square, true, false},
		{ring(8, 8, 9, 8, 9, 9), square, true, false}, {ring(8, 4, 9, 3, 9, 5), square, true, false}, {ring(8, 2, 9, 2, 9, 9, 8, 9), square, true, false}, {ring(8, 0, 9, 0, 9, 8, 8, 8), square, true, false},
		{ring(-1, 4, 4, 4, 4, 5), square, true, false}, {ring(4, -3, 12, 5, 12, -3), square, true, false}, {ring(4, -4, 12, 4, 12, -4), square, true, false}, {ring(4, -5, 12, 3, 12, -5), square, false, false},
		// In the notch a ring is outside, level with corners or not.
		{ring(3, 3, 5, 3, 5, 5, 3, 5), notch, false, false}, {ring(3, 8, 5, 8, 4, 9), notch, false, false}, {ring(1, 1, 7, 1, 7, 7), notch, true, false},
		{notch, ring(3, 3, 5, 3, 5, 5, 3, 5), false, false}, {ring(7, 2, 7, 1, 1, 1), notch, false, true}, {ring(3, 2, 5, 2, 4, 3), notch, true, false},
		{ring(-edge+1, 0, 0, -edge+1, edge-1, 0), ring(-edge, -edge, edge, -edge, edge, edge, -edge, edge), false, true},
		{ring(-edge, 0, 0, -edge+1, edge-1, 0), ring(-edge, -edge, edge, -edge, edge, edge, -edge, edge), true, false},
	} {
		if got := impl.RingsMeet(c.a, c.b); got != c.meet || impl.RingsMeet(c.b, c.a) != c.meet {
			t.Error("meet", i, got)
		}
		for j := range c.a.Spots {
			if got := impl.RingIn(from(c.a, j), c.b); got != c.in {
				t.Error("in", i, j, got)
			}
		}
	}
}

func TestWrongRingsAreRefused(t *testing.T) {
	ours := ring(-5, -5, 9, -5, 0, 9)
	for _, wrong := range wrongRings() {
		if impl.RingFault(wrong) == impl.RgOk || impl.RingArea2(wrong) != 0 || len(impl.RingSegs(wrong)) != 0 || len(impl.RingTurned(wrong).Spots) != 0 || len(impl.RingForm(wrong).Spots) != 0 {
			t.Error(wrong)
		}
		for _, p := range append(wrongPoints(), point(0, 0, 1), point(1, 1, 2), point(9, 9, 1)) {
			if got := impl.RingSide(wrong, p); got != impl.SdNone {
				t.Error("side", wrong, p, got)
			}
		}
		for _, other := range append(wrongRings(), ours) {
			if impl.RingsMeet(wrong, other) || impl.RingsMeet(other, wrong) || impl.RingIn(wrong, other) || impl.RingIn(other, wrong) {
				t.Error("two", wrong, other)
			}
		}
	}
	for _, p := range wrongPoints() {
		if got := impl.RingSide(ours, p); got != impl.SdNone {
			t.Error("wrong point", p, got)
		}
	}
}

// TestWrongRingsHaveNothingWithin takes rings that go round a right one and are each not right in one way.
func TestWrongRingsHaveNothingWithin(t *testing.T) {
	small := ring(0, 0, 1, 0, 0, 1)
	many := ring(-9, -9, 9, -9, 9, 9, 8, 9, 7, 9, 6, 9, 5, 9, 4, 9, 3, 9, 2, 9, 1, 9, 0, 9, -9, 9)
	for _, c := range []struct {
		r    impl.Ring
		code int64
	}{
		{many, impl.RgMany}, {ring(-edge-1, -9, 9, -9, 9, 9), impl.RgCoord}, {ring(-9, -9, 9, -9, 9, -9, 9, 9, -9, 9), impl.RgTwice}, {ring(-9, -9, 9, -9, 9, 9, -9, 9, -9, -9), impl.RgTwice},
		{ring(-9, -9, 9, -9, 9, 9, -9, 9, -9, 12), impl.RgCross}, {ring(-9, -9, 9, -9, 9, 9, 20, 9, 20, 10, -9, 5), impl.RgCross}, {ring(-9, -9, 9, -9, 9, 9, 0, -9, -9, 9), impl.RgCross},
	} {
		if got := impl.RingFault(c.r); got != c.code {
			t.Error("fault", c.r, got)
		}
		if impl.RingIn(small, c.r) || impl.RingsMeet(small, c.r) || impl.RingIn(c.r, ring(-50, -50, 50, -50, 0, 50)) || impl.RingSide(c.r, point(0, 0, 1)) != impl.SdNone || impl.RingArea2(c.r) != 0 {
			t.Error(c.r)
		}
		if code, place := impl.LayerFault(layer(small, c.r)); code != impl.LyRing+c.code || place != 1 || impl.DepthOf(layer(small, c.r), 0) != -1 {
			t.Error("layer", c.r, code, place)
		}
	}
}

// roomy is a ring with room behind its spots, and the whole row.
func roomy(r impl.Ring) (impl.Ring, []impl.Spot) {
	row := append(slices.Clone(r.Spots), spot(91, 92), spot(93, 94), spot(95, 96), spot(97, 98))
	return impl.Ring{Spots: row[:len(r.Spots)]}, row
}

// scribble writes over all that an answer holds, and over what lies behind it.
func scribble[T any](list []T) {
	clear(list[:cap(list)])
}

func TestRingsLeaveMemoryAlone(t *testing.T) {
	for _, r := range append(rightRings(), wrongRings()...) {
		ours, row := roomy(r)
		other, otherRow := roomy(turnedWanted(r))
		was, otherWas := slices.Clone(row), slices.Clone(otherRow)
		for range 2 {
			turned, form, segs := impl.RingTurned(ours), impl.RingForm(ours), impl.RingSegs(ours)
			fault, area, side := impl.RingFault(ours), impl.RingArea2(ours), impl.RingSide(ours, point(1, 1, 2))
			meet, in := impl.RingsMeet(ours, other), impl.RingIn(other, ours)
			if right := faultWanted(r) == impl.RgOk; right && (!sameRing(turned, turnedWanted(r)) || !sameRing(form, formWanted(r)) || !slices.Equal(segs, segsWanted(r))) {
				t.Error("another answer", r)
			}
			if fault != impl.RingFault(r) || area != impl.RingArea2(r) || side != impl.RingSide(r, point(1, 1, 2)) || meet != (fault == impl.RgOk) || in {
				t.Error("another answer", r)
			}
			scribble(turned.Spots)
			scribble(form.Spots)
			scribble(segs)
			if !slices.Equal(row, was) || !slices.Equal(otherRow, otherWas) {
				t.Fatal("written into", r)
			}
		}
	}
}
