package tests

import (
	"math/big"
	"slices"
	"strings"
	"testing"

	"loop.example/g00225/impl"
)

const ownMatrix = "2FFF1FFF2"

// related is a matrix as cells are found, each by a place in it.
type related struct {
	a, b   []impl.Ring
	matrix [9]byte
}

func (r *related) put(sideA, sideB int64, dimension byte) {
	at := map[int64]int{impl.SdIn: 0, impl.SdOn: 1, impl.SdOut: 2}
	to := &r.matrix[3*at[sideA]+at[sideB]]
	if *to == 'F' || *to < dimension {
		*to = dimension
	}
}

func (r *related) putPlace(at place, dimension byte) {
	r.put(layerSideAt(r.a, at), layerSideAt(r.b, at), dimension)
}

func sortedRats(list []*big.Rat) []*big.Rat {
	slices.SortFunc(list, (*big.Rat).Cmp)
	return slices.CompactFunc(list, func(a, b *big.Rat) bool { return a.Cmp(b) == 0 })
}

func halfOf(a, b *big.Rat) *big.Rat { return ratTimes(ratPlus(a, b), big.NewRat(1, 2)) }

// putSide takes the points where others meet a side, and what is between them, and tells how far along x these are.
func (r *related) putSide(s impl.Seg, sides []impl.Seg) []*big.Rat {
	var cuts, at []*big.Rat
	for _, q := range sides {
		if both := common(s, q); !both.empty {
			cuts = append(cuts, both.low, both.high)
		}
	}
	cuts = sortedRats(cuts)
	for i, u := range cuts {
		r.putPlace(along(s, u), '0')
		at = append(at, along(s, u).x)
		if i > 0 {
			r.putPlace(along(s, halfOf(cuts[i-1], u)), '1')
		}
	}
	return at
}

// putColumn goes up an upright line on which nothing ends or meets: past each side one comes into its layer, or out of it.
func (r *related) putColumn(x *big.Rat) {
	heights := [2][]*big.Rat{}
	for i, l := range [][]impl.Ring{r.a, r.b} {
		for _, s := range sidesOf(l) {
			if a, b := placeAt(s.A), placeAt(s.B); a.x.Cmp(x) < 0 && x.Cmp(b.x) < 0 {
				heights[i] = append(heights[i], along(s, new(big.Rat).Quo(ratLess(x, a.x), ratLess(b.x, a.x))).y)
			}
		}
	}
	for _, y := range sortedRats(slices.Concat(heights[0], heights[1])) {
		var sides [2]int64
		for i, list := range heights {
			sides[i] = impl.SdOut
			for _, height := range list {
				if height.Cmp(y) <= 0 {
					sides[i] = -sides[i]
				}
			}
		}
		r.put(sides[0], sides[1], '2')
	}
}

// relationWanted finds the points and edges along the sides, and the faces just over the edges; what has no edge below it is outside.
func relationWanted(a, b []impl.Ring) string {
	r := &related{a: a, b: b, matrix: [9]byte([]byte("FFFFFFFF2"))}
	sides := append(sidesOf(a), sidesOf(b)...)
	var at []*big.Rat
	for _, s := range sides {
		at = append(at, r.putSide(s, sides)...)
	}
	at = sortedRats(at)
	for i := 1; i < len(at); i++ {
		r.putColumn(halfOf(at[i-1], at[i]))
	}
	return string(r.matrix[:])
}

// turnedMarks is a matrix or a mask with a and b exchanged.
func turnedMarks(s string) string {
	return string([]byte{s[0], s[3], s[6], s[1], s[4], s[7], s[2], s[5], s[8]})
}

func relationNames() []string {
	return []string{"equals", "disjoint", "touches", "within", "contains", "overlaps", "intersects"}
}

func masksOf(name string) []string {
	return map[string][]string{
		"equals": {"T*F**FFF*"}, "disjoint": {"FF*FF****"}, "touches": {"FT*******", "F**T*****", "F***T****"}, "within": {"T*F**F***"}, "contains": {"T*****FF*"}, "overlaps": {"T*T***T**"},
		"intersects": {"T********", "*T*******", "***T*****", "****T****"},
	}[name]
}

// namedWanted says in other words what the masks of a name ask for.
func namedWanted(m, name string) bool {
	has := func(i int) bool { return m[i] != 'F' }
	meets := has(0) || has(1) || has(3) || has(4)
	switch name {
	case "equals":
		return has(0) && !has(2) && !has(5) && !has(6) && !has(7)
	case "disjoint":
		return !meets
	case "touches":
		return meets && !has(0)
	case "within":
		return has(0) && !has(2) && !has(5)
	case "contains":
		return has(0) && !has(6) && !has(7)
	case "overlaps":
		return has(0) && has(2) && has(6)
	}
	return meets
}

func allMatrices(f func(m string)) {
	marks := "F012"
	for n := range 1 << 18 {
		m := make([]byte, 9)
		for i := range m {
			m[i] = marks[n>>(2*i)&3]
		}
		f(string(m))
	}
}

func checkNames(t *testing.T, m string, want ...string) {
	t.Helper()
	for _, name := range relationNames() {
		if is, ok := impl.Named(m, name); !ok || is != slices.Contains(want, name) {
			t.Error(m, name, is, ok)
		}
	}
}

// checkRelation asks for the relation of two right layers, both ways.
func checkRelation(t *testing.T, a, b []impl.Ring, want string) {
	t.Helper()
	if got, code := impl.Relate(a, b); got != want || code != impl.RlOk {
		t.Fatal(impl.LayerText(a), "with", impl.LayerText(b), got, code, want)
	}
	if got, code := impl.Relate(b, a); got != turnedMarks(want) || code != impl.RlOk {
		t.Fatal(impl.LayerText(b), "with", impl.LayerText(a), got, code, turnedMarks(want))
	}
}

func TestRelationConstants(t *testing.T) {
	if impl.RlOk != 0 || impl.RlLayer != 1 || impl.RlEmpty != 2 {
		t.Error("codes")
	}
}

func TestRelationsOfOurOwn(t *testing.T) {
	four, holed := layer(square(0, 0, 4)), layer(square(0, 0, 9), square(3, 3, 3))
	pair := layer(square(0, 0, 4), square(10, 0, 4))
	nest := layer(square(0, 0, 20), square(2, 2, 16), square(6, 6, 8))
	apart, touching, within, overlapping := []string{"disjoint"}, []string{"touches", "intersects"}, []string{"within", "intersects"}, []string{"overlaps", "intersects"}
	for i, c := range []struct {
		a, b  []impl.Ring
		want  string
		names []string
	}{
		// With itself, from another spot on and the other way round, with a spot more on a side, with its rings in another order.
		{four, four, ownMatrix, []string{"equals", "within", "contains", "intersects"}}, {four, layer(from(turnedWanted(four[0]), 2)), ownMatrix, []string{"equals", "within", "contains", "intersects"}}, {four, layer(ring(0, 0, 1, 0, 4, 0, 4, 4, 0, 4)), ownMatrix, []string{"equals", "within", "contains", "intersects"}}, {nest, layer(nest[2], nest[0], turnedWanted(nest[1])), ownMatrix, []string{"equals", "within", "contains", "intersects"}},
		// Apart, by a side, by a corner, by next to nothing, and one in the bay of the other.
		{four, layer(square(9, 0, 4)), "FF2FF1212", apart}, {four, layer(square(5, 5, 4)), "FF2FF1212", apart}, {layer(ring(-edge, -edge, edge, edge, -edge, edge)), layer(ring(1-edge, -edge, edge, edge-1, edge, -edge)), "FF2FF1212", apart}, {layer(ring(0, 0, 9, 0, 9, 9, 6, 9, 6, 3, 3, 3, 3, 9, 0, 9)), layer(square(4, 4, 1)), "FF2FF1212", apart},
		// In one spot only: corners, a corner on a side, a corner in a bay.
		{four, layer(square(4, 4, 4)), "FF2F01212", touching}, {four, layer(ring(4, 2, 6, 1, 6, 3)), "FF2F01212", touching}, {four, layer(ring(2, -3, 3, -3, 2, 0)), "FF2F01212", touching}, {layer(ring(0, 0, 8, 0, 8, 8, 4, 4, 0, 8)), layer(ring(4, 4, 5, 8, 3, 8)), "FF2F01212", touching}, {layer(ring(-edge, -edge, edge, edge, -edge, edge)), layer(ring(0, 0, edge, edge-1, edge, -edge)), "FF2F01212", touching},
		// Along a part of a side, along a whole side, along all sides of a bay.
		{four, layer(square(4, 1, 2)), "FF2F11212", touching}, {four, layer(square(4, 2, 4)), "FF2F11212", touching}, {four, layer(square(4, 0, 4)), "FF2F11212", touching}, {layer(ring(0, 0, 9, 0, 9, 9, 6, 9, 6, 3, 3, 3, 3, 9, 0, 9)), layer(square(3, 3, 3)), "FF2F11212", touching},
		// Within: without anything in common, with a spot, with a corner, with a part of a side, with two sides.
		{layer(square(1, 1, 2)), four, "2FF1FF212", within}, {layer(ring(0, 2, 2, 1, 2, 3)), four, "2FF10F212", within}, {layer(ring(0, 0, 3, 1, 1, 3)), four, "2FF10F212", within}, {layer(ring(0, 2, 2, 0, 4, 2, 2, 4)), four, "2FF10F212", within}, {layer(square(0, 1, 2)), four, "2FF11F212", within}, {layer(square(0, 0, 2)), four, "2FF11F212", within}, {layer(ring(0, 0, 4, 0, 0, 4)), four, "2FF11F212", within},
		// In a hole: apart from it, at a spot of it, along a side, filling it, and so that the two have all of the outer ring.
		{holed, layer(square(4, 4, 1)), "FF2FF1212", apart}, {holed, layer(ring(3, 4, 5, 4, 4, 5)), "FF2F01212", touching}, {holed, layer(square(3, 3, 1)), "FF2F11212", touching}, {holed, layer(square(3, 3, 3)), "FF2F112F2", touching}, {holed, layer(square(3, 3, 3), square(4, 4, 1)), "FF2F11212", touching}, {holed, layer(square(0, 0, 9)), "2FF11F2F2", within}, {holed, layer(square(-1, -1, 11)), "2FF1FF212", within},
		{holed, layer(square(2, 2, 5)), "2121F12F2", overlapping}, {holed, layer(square(3, 3, 6)), "2121112F2", overlapping}, {holed, layer(square(0, 0, 3)), "212F11FF2", []string{"contains", "intersects"}}, {holed, layer(square(0, 0, 9), square(2, 2, 5)), "212F11FF2", []string{"contains", "intersects"}},
		// Sides that cross, with nothing else in common, and with sides and corners in common; a cross.
		{four, layer(square(2, 2, 4)), "212101212", overlapping}, {four, layer(square(2, 0, 4)), "212111212", overlapping}, {four, layer(ring(-1, 2, 2, -1, 5, 2, 2, 5)), "212101212", overlapping}, {four, layer(ring(-1, 1, 5, 1, 5, 3, -1, 3)), "212101212", overlapping}, {layer(ring(0, 0, 4, 0, 0, 4)), layer(ring(0, 0, 4, 0, 4, 4)), "212111212", overlapping},
		// Several rings: one of two, one of two and another, all in one, nests by turns.
		{pair, four, "2F2F11FF2", []string{"contains", "intersects"}}, {pair, layer(square(0, 0, 4), square(10, 10, 4)), "2F2F11212", overlapping}, {pair, layer(square(4, 0, 6)), "FF2F11212", touching}, {pair, layer(square(4, 4, 6)), "FF2F01212", touching}, {pair, layer(square(5, 0, 4)), "FF2FF1212", apart}, {pair, layer(square(5, 0, 4), square(11, 1, 2)), "212FF1212", overlapping}, {pair, layer(square(-1, -1, 30)), "2FF1FF212", within}, {pair, layer(square(0, 0, 4), square(10, 0, 4), square(20, 0, 4)), "2FFF1F212", within},
		{nest, layer(square(2, 2, 16), square(6, 6, 8)), "FF2F112F2", touching}, {nest, layer(square(1, 1, 18), square(4, 4, 12), square(8, 8, 4)), "2121F1212", overlapping}, {nest, layer(square(0, 0, 20)), "2FF11F2F2", within}, {nest, layer(square(0, 0, 20), square(2, 2, 16)), "2F2F11FF2", []string{"contains", "intersects"}}, {nest, layer(square(6, 6, 8)), "2F2F11FF2", []string{"contains", "intersects"}},
	} {
		checkRelation(t, c.a, c.b, c.want)
		if got := relationWanted(c.a, c.b); got != c.want {
			t.Error("worked out another way", i, got, c.want)
		}
		checkNames(t, c.want, c.names...)
	}
}

// fromRings throws layers of a few rings that have sides and corners in common, so that both often have the same ones, or one what the other has not.
func (d *dice) fromRings() layerPair {
	by := 1 + int64(d.word()%2)
	rings := []impl.Ring{square(0, 0, 12), square(by, by, 12-2*by), square(3, 3, 6), square(4, 4, 2), square(3, 3, 3), square(6, 3, 3), ring(3, 3, 9, 3, 6, 9), ring(3, 9, 9, 9, 6, 3), square(12, 0, 3), square(14, 1, 3), ring(4, 4, 6, 4, 4, 6), square(9, 9, 3)}
	var out [2][]impl.Ring
	for i := range out {
		for len(out[i]) == 0 || d.word()%4 > 0 {
			if more := append(slices.Clone(out[i]), rings[d.word()%uint64(len(rings))]); isRightLayer(more) {
				out[i] = more
			}
		}
	}
	return layerPair{out[0], out[1]}
}

// withRings are those pairs of which both have a ring.
func withRings(pairs []layerPair) []layerPair {
	return slices.DeleteFunc(pairs, func(c layerPair) bool { return len(c.a) == 0 || len(c.b) == 0 })
}

func TestRelations(t *testing.T) {
	t.Parallel()
	seen := map[string]int{}
	d := dice(409)
	pairs := withRings(append(ourPairs(), thrownPairs(60)...))
	for range 400 {
		pairs = append(pairs, d.fromRings())
	}
	for _, c := range pairs {
		want := relationWanted(c.a, c.b)
		checkRelation(t, c.a, c.b, want)
		seen[want]++
		for _, name := range relationNames() {
			if is, ok := impl.Named(want, name); !ok || is != namedWanted(want, name) {
				t.Error(want, name, is, ok)
			} else if is {
				seen[name]++
			}
		}
		// The faces of the overlay that are taken say the same of insides.
		for op, at := range map[int64]int{impl.OpAnd: 0, impl.OpLess: 2} {
			if taken, ok := impl.Chosen(c.a, c.b, op); !ok || (len(taken) > 0) != (want[at] == '2') {
				t.Error("taken", c, op, taken, want)
			}
		}
	}
	for _, name := range relationNames() {
		if seen[name] < 10 {
			t.Error("too few of a kind", name, seen)
		}
	}
	if len(seen) < 35 {
		t.Error("too few relations", len(seen), seen)
	}
}

// TestRelationsOfSquares takes all places of one square beside another, whose answers are those of their spans along x and along y.
func TestRelationsOfSquares(t *testing.T) {
	t.Parallel()
	a := layer(square(0, 0, 3))
	for size := int64(1); size <= 4; size++ {
		for x := -size - 1; x <= 4; x++ {
			for y := -size - 1; y <= 4; y++ {
				b := layer(square(x, y, size))
				checkRelation(t, a, b, relationWanted(a, b))
				m, _ := impl.Relate(a, b)
				apart := x+size < 0 || y+size < 0 || x > 3 || y > 3
				inside := x+size > 0 && y+size > 0 && x < 3 && y < 3
				for name, want := range map[string]bool{
					"disjoint": apart, "intersects": !apart, "touches": !apart && !inside, "equals": x == 0 && y == 0 && size == 3, "contains": x >= 0 && y >= 0 && x+size <= 3 && y+size <= 3,
					"within": x <= 0 && y <= 0 && x+size >= 3 && y+size >= 3,
				} {
					if is, ok := impl.Named(m, name); !ok || is != want {
						t.Error(x, y, size, name, is, ok, m)
					}
				}
			}
		}
	}
}

func TestRelationsOfWrongOnes(t *testing.T) {
	refuses := func(a, b []impl.Ring, want int64) {
		t.Helper()
		if m, code := impl.Relate(a, b); m != "" || code != want {
			t.Error(a, b, m, code, want)
		}
	}
	for _, wrong := range wrongLayers() {
		for _, other := range [][]impl.Ring{threes(1), threes(6), nil, {}, wrong, {{}}, threes(7)} {
			refuses(wrong, other, impl.RlLayer)
			refuses(other, wrong, impl.RlLayer)
		}
	}
	for _, empty := range [][]impl.Ring{nil, {}} {
		for _, l := range rightLayers()[:20] {
			refuses(empty, l, impl.RlEmpty)
			refuses(l, empty, impl.RlEmpty)
		}
		refuses(empty, nil, impl.RlEmpty)
		refuses(empty, []impl.Ring{}, impl.RlEmpty)
		// One that is not right is told first, wherever it stands.
		refuses(empty, layer(ring(0, 0)), impl.RlLayer)
		refuses(layer(ring(0, 0)), empty, impl.RlLayer)
	}
	if m, code := impl.Relate(layer(bow(12), moved(bow(8), spot(500, 0), 1)), threes(6)); code != impl.RlOk || len(m) != 9 {
		t.Error("as many spots and rings as there may be", m, code)
	}
}

// with is the text with another byte at a place.
func with(s string, i int, b byte) string {
	out := []byte(s)
	out[i] = b
	return string(out)
}

// wrongMarks are no masks: too short, too long, of other bytes, of other letters.
func wrongMarks() []string {
	out := []string{
		"", "T", "F", "2FF1FF21", "2FF1FF2122", "2FF1FF212 ", " 2FF1FF212", " 2FF1FF21", "2FF1FF21\n", "2FF1FF212\n", "2FF1FF212\x00", "2FF1FF21\x00", "\x002FF1FF21", "2ff1ff212", "fffffffff", "t********", "tttttttttt", "2FF 1FF 212", "2FF/1FF/212", "2FF1FF213", "2FF1FF21-", "3FF1FF212", "-1F1FF212", "2FF1FF21X", "XXXXXXXXX", "?????????",
		strings.Repeat("F", 8), strings.Repeat("F", 10), strings.Repeat("*", 8), strings.Repeat("*", 10), strings.Repeat("T", 18), strings.Repeat("2FF1FF212", 2), strings.Repeat("F", 4000), strings.Repeat("\x00", 9), strings.Repeat("\xff", 9),
		// Nine runes that are more bytes, and nine bytes that are fewer runes.
		"\u0424FFFFFFFF", "\uff26\uff26\uff26", "FFFFFF\uff26", "FFFFFFF\u0424", strings.Repeat("\uff26", 9), "equals", "disjoint", "intersects",
	}
	for i := range 9 {
		for b := range 256 {
			if !strings.Contains("TF*012", string(rune(b))) {
				out = append(out, with("012FF2101", i, byte(b)))
			}
		}
	}
	return out
}

func TestMasks(t *testing.T) {
	for i := range 9 {
		for _, b := range []byte("TF*012") {
			for _, all := range []byte("TF*012") {
				if mask := with(strings.Repeat(string(all), 9), i, b); !impl.MaskOk(mask) {
					t.Error(mask)
				}
			}
		}
	}
	allMatrices(func(m string) {
		if !impl.MaskOk(m) {
			t.Fatal(m)
		}
	})
	for _, wrong := range wrongMarks() {
		if impl.MaskOk(wrong) {
			t.Errorf("%q", wrong)
		}
		for _, other := range []string{"*********", "TTTTTTTTT", "FFFFFFFFF", "222222222", "012F012F0", "T*F**F***", wrong} {
			if impl.Matches(other, wrong) || impl.Matches(wrong, other) {
				t.Errorf("%q %q", wrong, other)
			}
		}
	}
}

// meetsMaskWanted asks by a list of what each mark of a mask lets through.
func meetsMaskWanted(m, mask string) bool {
	for i := range m {
		through := map[byte]string{'*': "F012", 'T': "012", 'F': "F", '0': "0", '1': "1", '2': "2"}[mask[i]]
		if !strings.Contains(through, m[i:i+1]) {
			return false
		}
	}
	return true
}

func TestMatches(t *testing.T) {
	t.Parallel()
	// Each mark of a mask at each place, with each of a matrix, where all else is met, and where one other is not.
	for i := range 9 {
		for _, wanted := range []byte("TF*012") {
			for _, found := range []byte("F012") {
				m, mask := with("012F012F0", i, found), with("01TF*12FT", i, wanted)
				if got := impl.Matches(m, mask); got != meetsMaskWanted(m, mask) {
					t.Error(m, mask, got)
				}
				other := (i + 1 + int(wanted)%8) % 9
				if broken := with(mask, other, "1201F"[strings.IndexByte("012F0", m[other])]); impl.Matches(m, broken) != meetsMaskWanted(m, broken) {
					t.Error(m, broken)
				}
			}
		}
	}
	d := dice(401)
	met := 0
	for range 60000 {
		m, mask := make([]byte, 9), make([]byte, 9)
		for i := range m {
			m[i], mask[i] = "F012"[d.word()%4], "TF*012**TTT"[d.word()%11]
			if d.word()%4 > 0 {
				mask[i] = []byte{'*', m[i]}[d.word()%2]
			}
		}
		got := impl.Matches(string(m), string(mask))
		if got != meetsMaskWanted(string(m), string(mask)) {
			t.Fatal(string(m), string(mask), got)
		}
		if impl.Matches(turnedMarks(string(m)), turnedMarks(string(mask))) != got {
			t.Fatal("turned", string(m), string(mask), got)
		}
		if got {
			met++
		}
	}
	if met < 10000 || met > 50000 {
		t.Error("too few of a kind", met)
	}
}

func TestMasksOfOneMark(t *testing.T) {
	t.Parallel()
	allMatrices(func(m string) {
		if !impl.Matches(m, "*********") || !impl.Matches(m, m) {
			t.Fatal("all stars, and itself", m)
		}
		if impl.Matches(m, "TTTTTTTTT") != !strings.Contains(m, "F") || impl.Matches(m, "FFFFFFFFF") != (m == "FFFFFFFFF") || impl.Matches(m, "111111111") != (m == "111111111") {
			t.Fatal("all alike", m)
		}
		if impl.Matches(m, with(m, 4, "F012F"[strings.IndexByte("F012", m[4])+1])) {
			t.Fatal("another one", m)
		}
	})
	// A mask with T or * is no matrix.
	for _, mask := range []string{"*********", "TTTTTTTTT", "T*F**FFF*", "T12F12F12", "0123F12F*", "012F12F1*", "*12F12F12", "012FT2F12"} {
		for _, other := range []string{"*********", "TTTTTTTTT", mask} {
			if impl.Matches(mask, other) {
				t.Error(mask, other)
			}
		}
		for _, name := range relationNames() {
			if is, ok := impl.Named(mask, name); is || ok {
				t.Error(mask, name, is, ok)
			}
		}
		if impl.Transposed(mask) != "" {
			t.Error(mask)
		}
	}
}

func TestNames(t *testing.T) {
	t.Parallel()
	allMatrices(func(m string) {
		for _, name := range relationNames() {
			if is, ok := impl.Named(m, name); !ok || is != namedWanted(m, name) {
				t.Fatal(m, name, is, ok)
			}
		}
	})
}

// onlyBy is a matrix that meets one of the masks of a name, and by no other mask than need be.
func onlyBy(mask string) string {
	return strings.NewReplacer("*", "F", "T", "1").Replace(mask)
}

func TestEachMaskOfEachName(t *testing.T) {
	for _, name := range relationNames() {
		for _, mask := range masksOf(name) {
			for _, dimension := range []string{"0", "1", "2"} {
				m := strings.ReplaceAll(onlyBy(mask), "1", dimension)
				if is, ok := impl.Named(m, name); !is || !ok || !impl.Matches(m, mask) {
					t.Error(name, mask, m, is, ok)
				}
				others := 0
				for _, other := range masksOf(name) {
					if impl.Matches(m, other) {
						others++
					}
				}
				if others != 1 {
					t.Error("not by this mask alone", name, mask, m, others)
				}
			}
			// At each place where the mask asks for something one that has it not is not called so.
			for i := range 9 {
				m := with(onlyBy(mask), i, map[byte]byte{'T': 'F', 'F': '0', '*': '2'}[mask[i]])
				is, ok := impl.Named(m, name)
				if !ok || is != namedWanted(m, name) || mask[i] != '*' && impl.Matches(m, mask) || mask[i] == '*' && !is {
					t.Error(name, mask, m, is, ok)
				}
			}
		}
	}
}

func TestNoNames(t *testing.T) {
	wrong := []string{
		"", " ", "meets", "equal", "equals ", " equals", "Equals", "EQUALS", "eQuals", "equals\x00", "\x00", "equalsequals", "disjoin", "Disjoint", "touch", "Touches", "touches\n", "Within", "WITHIN", "with", "contain", "Contains", "overlap", "Overlaps", "intersect", "Intersects", "INTERSECTS",
		"covers", "coveredby", "crosses", "disjoint,touches", "T*F**FFF*", "*********", "2FFF1FFF2", "e\u0455uals", strings.Repeat("equals", 1000),
	}
	for _, m := range []string{ownMatrix, "FF2FF1212", "212101212", "FFFFFFFFF", "222222222", "", "T********", "2fff1fff2"} {
		for _, name := range wrong {
			if is, ok := impl.Named(m, name); is || ok {
				t.Errorf("%q %q %v %v", m, name, is, ok)
			}
		}
	}
	for _, m := range wrongMarks() {
		for _, name := range append(relationNames(), "", "meets") {
			if is, ok := impl.Named(m, name); is || ok {
				t.Errorf("%q %q %v %v", m, name, is, ok)
			}
		}
	}
}

func TestTransposed(t *testing.T) {
	t.Parallel()
	for m, want := range map[string]string{"012F12FF2": "0FF11F222", "FFFFFFFFF": "FFFFFFFFF", "2FFF1FFF2": "2FFF1FFF2", "212FF1FF2": "2FF1FF212", "0F1F2F1F0": "0F1F2F1F0", "FF2F01212": "FF2F01212", "0001112222"[:9]: "012012012", "F00F11F22": "FFF012012"} {
		if got := impl.Transposed(m); got != want {
			t.Error(m, got, want)
		}
	}
	allMatrices(func(m string) {
		turned := impl.Transposed(m)
		if turned != turnedMarks(m) || impl.Transposed(turned) != m {
			t.Fatal(m, turned)
		}
	})
	for _, wrong := range append(wrongMarks(), "T********", "*********", "TTTTTTTTT", "T*F**FFF*", "012F1*FF2", "012F12FFT") {
		if got := impl.Transposed(wrong); got != "" {
			t.Errorf("%q %q", wrong, got)
		}
	}
}

// checkPromise14 leans on nothing but the answers.
func checkPromise14(t *testing.T, a, b []impl.Ring) {
	t.Helper()
	m, code := impl.Relate(a, b)
	back, backCode := impl.Relate(b, a)
	if code != impl.RlOk || backCode != impl.RlOk || back != impl.Transposed(m) || m != impl.Transposed(back) {
		t.Fatal("the other way round", a, b, m, back)
	}
	has := func(matrix, name string) bool {
		is, ok := impl.Named(matrix, name)
		if !ok {
			t.Fatal(matrix, name)
		}
		return is
	}
	if has(m, "within") != has(back, "contains") || has(m, "contains") != has(back, "within") || has(m, "disjoint") == has(m, "intersects") {
		t.Fatal("names", a, b, m, back)
	}
	for _, name := range []string{"equals", "disjoint", "touches", "overlaps", "intersects"} {
		if has(m, name) != has(back, name) {
			t.Fatal("a name that does not ask which stands first", a, b, m, name)
		}
	}
	if has(m, "equals") != (has(m, "within") && has(m, "contains")) || has(m, "touches") && !has(m, "intersects") {
		t.Fatal("names", a, b, m)
	}
	for _, name := range relationNames() {
		for _, mask := range masksOf(name) {
			if impl.Matches(m, mask) != impl.Matches(back, turnedMarks(mask)) {
				t.Fatal("turned mask", a, b, m, mask)
			}
		}
	}
	for _, l := range [][]impl.Ring{a, b} {
		if own, code := impl.Relate(l, l); code != impl.RlOk || own != ownMatrix || !has(own, "equals") {
			t.Fatal("itself", l, own, code)
		}
	}
}

func TestPromise14(t *testing.T) {
	t.Parallel()
	for _, c := range withRings(append(ourPairs(), thrownPairs(90)...)) {
		checkPromise14(t, c.a, c.b)
	}
	d := dice(419)
	for range 300 {
		c := d.fromRings()
		checkPromise14(t, c.a, c.b)
	}
	layers := rightLayers()
	for i, a := range layers[2:] {
		checkPromise14(t, a, layers[2+(7*i)%(len(layers)-2)])
	}
	allMatrices(func(m string) {
		turned := impl.Transposed(m)
		within, _ := impl.Named(m, "within")
		contains, _ := impl.Named(turned, "contains")
		disjoint, _ := impl.Named(m, "disjoint")
		intersects, _ := impl.Named(m, "intersects")
		if within != contains || disjoint == intersects {
			t.Fatal(m, turned)
		}
	})
}

// TestRelationsOfTheSameLayers writes the layers in other ways, moves them and makes them greater: the relation stays.
func TestRelationsOfTheSameLayers(t *testing.T) {
	t.Parallel()
	rewritten := func(l []impl.Ring) []impl.Ring {
		var out []impl.Ring
		for i, r := range l {
			if r = from(r, i%len(r.Spots)); i%2 == 0 {
				r = turnedWanted(r)
			}
			out = slices.Insert(out, 0, r)
		}
		return out
	}
	upright := func(l []impl.Ring) []impl.Ring {
		var out []impl.Ring
		for _, r := range l {
			var turned impl.Ring
			for _, s := range r.Spots {
				turned.Spots = append(turned.Spots, spot(-s.Y, s.X))
			}
			out = append(out, turned)
		}
		return out
	}
	for _, c := range withRings(append(ourPairs(), thrownPairs(20)...)) {
		m, _ := impl.Relate(c.a, c.b)
		checkRelation(t, rewritten(c.a), c.b, m)
		checkRelation(t, c.a, rewritten(c.b), m)
		checkRelation(t, rewritten(c.a), rewritten(c.b), m)
		checkRelation(t, upright(c.a), upright(c.b), m)
		if by := spot(-5, 9); isRightLayer(movedLayer(c.a, by, 7)) && isRightLayer(movedLayer(c.b, by, 7)) {
			checkRelation(t, movedLayer(c.a, by, 7), movedLayer(c.b, by, 7), m)
		}
	}
}

// TestGreatestRelations has as many cells as two layers make, and ones that miss one another by next to nothing.
func TestGreatestRelations(t *testing.T) {
	t.Parallel()
	for _, c := range []struct {
		a, b []impl.Ring
		want string
	}{
		{strips(5, false), strips(5, true), "212101212"}, {threes(6), threes(6), ownMatrix}, {layer(bow(12), moved(bow(8), spot(500, 0), 1)), layer(bow(12), moved(bow(8), spot(500, 0), 1)), ownMatrix},
		{layer(square(-edge, -edge, 2*edge)), layer(ring(-edge, -edge, edge, edge, edge-1, edge)), "212F11FF2"}, {layer(ring(-edge, 0, edge, 1, 0, edge)), layer(ring(-edge, -1, edge, 0, 0, -edge)), "FF2FF1212"},
	} {
		checkRelation(t, c.a, c.b, c.want)
	}
}

func TestRelationsLeaveMemoryAlone(t *testing.T) {
	wrong := wrongLayers()
	pairs := append(ourPairs(), layerPair{wrong[0], wrong[1]}, layerPair{wrong[7], threes(2)}, layerPair{threes(2), wrong[8]}, layerPair{nil, wrong[5]})
	for _, c := range append(pairs, thrownPairs(4)...) {
		a, sameA := roomyLayer(c.a)
		b, sameB := roomyLayer(c.b)
		want, wantCode := impl.Relate(c.a, c.b)
		for range 3 {
			if got, code := impl.Relate(a, b); got != want || code != wantCode {
				t.Error("another answer", c, got, want)
			}
			if !sameA() || !sameB() {
				t.Fatal("written into", c)
			}
		}
	}
}
