package tests

import (
	"fmt"
	"math"
	"regexp"
	"slices"
	"strings"
	"testing"

	"loop.example/g00225/impl"
)

func sameLayer(a, b []impl.Ring) bool {
	return slices.EqualFunc(a, b, sameRing)
}

func layer(rings ...impl.Ring) []impl.Ring { return rings }

// square stands with its low left corner at (x, y).
func square(x, y, size int64) impl.Ring {
	return ring(x, y, x+size, y, x+size, y+size, x, y+size)
}

// three is a small ring of three spots, far from the others of other numbers.
func three(n int64) impl.Ring {
	return ring(10*n, 0, 10*n+1, 0, 10*n, 1)
}

func threes(n int64) []impl.Ring {
	var out []impl.Ring
	for i := range n {
		out = append(out, three(i))
	}
	return out
}

func spotsOf(l []impl.Ring) int {
	n := 0
	for _, r := range l {
		n += len(r.Spots)
	}
	return n
}

func layerFaultWanted(l []impl.Ring) (int64, int64) {
	if len(l) > 6 {
		return impl.LyMany, 0
	}
	if spotsOf(l) > 20 {
		return impl.LySpots, 0
	}
	for i, r := range l {
		if code := faultWanted(r); code != impl.RgOk {
			return impl.LyRing + code, int64(i)
		}
	}
	for i, r := range l {
		if slices.ContainsFunc(l[:i], func(ahead impl.Ring) bool { return meetsWanted(ahead, r) }) {
			return impl.LyMeet, int64(i)
		}
	}
	return impl.LyOk, 0
}

func isRightLayer(l []impl.Ring) bool {
	code, _ := layerFaultWanted(l)
	return code == impl.LyOk
}

func depthWanted(l []impl.Ring, i int) int64 {
	depth := int64(0)
	for j := range l {
		if j != i && inWanted(l[i], l[j]) {
			depth++
		}
	}
	return depth
}

func layerAreaWanted(l []impl.Ring) int64 {
	sum := int64(0)
	for i, r := range l {
		area := areaWanted(r)
		sum += max(area, -area) * (1 - 2*(depthWanted(l, i)%2))
	}
	return sum
}

func layerSideWanted(l []impl.Ring, p impl.Point) int64 { return layerSideAt(l, placeOf(p)) }

func layerSideAt(l []impl.Ring, at place) int64 {
	within := 0
	for _, r := range l {
		switch ringSideAt(r, at) {
		case impl.SdOn:
			return impl.SdOn
		case impl.SdIn:
			within++
		}
	}
	if within%2 == 1 {
		return impl.SdIn
	}
	return impl.SdOut
}

// layer throws rings of all sizes until they are as many as asked for, or spots run out; they may meet, and have a few spots too many.
func (d *dice) layer(n int, size int64) []impl.Ring {
	var out []impl.Ring
	for len(out) < n && spotsOf(out) <= 17 {
		own := 1 + int64(d.word()%uint64(size))
		r := moved(d.ring(3+int(d.word()%3), own), d.spot(size-own), 1)
		out = append(out, r)
	}
	return out
}

// nest throws great rings ahead of small ones and leaves out those that do harm, so that rings often lie within others.
func (d *dice) nest(size int64) []impl.Ring {
	var out []impl.Ring
	for own := size; own >= 2 && len(out) < 6; own -= 1 + own/6 {
		for range 4 {
			r := moved(d.ring(3+int(d.word()%3), own), d.spot(size-own), 1)
			if more := append(slices.Clone(out), r); isRightLayer(more) {
				out = more
			}
		}
	}
	return out
}

// thrownLayers are of right rings: as thrown, which often meet or have too many spots, and without those that do harm.
func thrownLayers(f func(l []impl.Ring)) {
	d := dice(53)
	for i := range 1500 {
		l := d.layer(1+i%6, d.size()+3)
		f(l)
		var apart []impl.Ring
		for _, r := range l {
			if more := append(slices.Clone(apart), r); isRightLayer(more) {
				apart = more
			}
		}
		f(apart)
	}
}

// rightLayers are of our own, at the limits, and thrown.
func rightLayers() [][]impl.Ring {
	out := [][]impl.Ring{
		nil, {}, threes(1), threes(6), {square(0, 0, 9)}, {bow(12)}, {bow(12), moved(bow(8), spot(500, 0), 1)},
		{square(0, 0, 9), square(1, 1, 7), square(2, 2, 5), square(3, 3, 3), square(4, 4, 1)},
		{square(4, 4, 1), square(2, 2, 5), turnedWanted(square(0, 0, 9)), square(3, 3, 3), turnedWanted(square(1, 1, 7))},
		{square(0, 0, 20), square(1, 1, 4), square(2, 2, 2), square(8, 8, 10), ring(9, 9, 10, 9, 9, 10)},
		{square(0, 0, 1), square(3, 0, 1), square(0, 3, 1), square(3, 3, 1), square(1, 5, 1)},
		{ring(0, 0, 8, 0, 8, 8, 6, 8, 6, 2, 2, 2, 2, 8, 0, 8), square(3, 3, 2), square(-2, -2, 20)},
		{ring(-edge, -edge, edge, -edge, edge, edge, -edge, edge), square(1-edge, 1-edge, 2*edge-2), ring(2-edge, 2-edge, edge-2, 2-edge, edge-2, edge-2)},
	}
	thrownLayers(func(l []impl.Ring) {
		if len(out) < 80 && isRightLayer(l) && len(l) >= len(out)%5 {
			out = append(out, l)
		}
	})
	d := dice(61)
	for i := range int64(60) {
		out = append(out, d.nest(15+i*i*i))
	}
	return out
}

// wrongLayers are not right, a fault after the other.
func wrongLayers() [][]impl.Ring {
	out := [][]impl.Ring{
		threes(7), threes(40), make([]impl.Ring, 7), {bow(12), moved(bow(9), spot(500, 0), 1)}, {bow(21)}, {{}}, make([]impl.Ring, 6), {square(0, 0, 2), square(2, 2, 2)},
		{square(0, 0, 2), square(0, 0, 2)}, {square(0, 0, 9), square(1, 1, 2), square(8, 3, 4)},
	}
	for _, wrong := range wrongRings() {
		out = append(out, layer(wrong), layer(three(9), wrong), layer(wrong, three(9)))
	}
	return out
}

func TestOurLayers(t *testing.T) {
	for _, l := range rightLayers() {
		if !isRightLayer(l) {
			t.Error("not right", l)
		}
	}
	for _, l := range wrongLayers() {
		if isRightLayer(l) {
			t.Error("right", l)
		}
	}
}

func TestLayerConstants(t *testing.T) {
	if impl.MaxRings != 6 || impl.MaxSpots != 20 || impl.MaxText != 2000 {
		t.Error("limits")
	}
	if impl.LyOk != 0 || impl.LyMany != 1 || impl.LySpots != 2 || impl.LyMeet != 3 || impl.LyRing != 10 {
		t.Error("codes")
	}
}

func TestLayerFaults(t *testing.T) {
	seen := map[int64]int{}
	check := func(l []impl.Ring) {
		code, place := impl.LayerFault(l)
		wantCode, wantPlace := layerFaultWanted(l)
		if code != wantCode || place != wantPlace {
			t.Error(l, code, place, wantCode, wantPlace)
		}
		seen[code]++
	}
	thrownLayers(check)
	for _, l := range append(rightLayers(), wrongLayers()...) {
		check(l)
	}
	if seen[impl.LyOk] < 300 || seen[impl.LyMeet] < 300 || seen[impl.LySpots] < 100 {
		t.Error("too few of a kind", seen)
	}
}

func TestLayerFaultsOfOurOwn(t *testing.T) {
	cross, few := ring(0, 0, 2, 2, 2, 0, 0, 2), ring(0, 0, 1, 1)
	for i, c := range []struct {
		l           []impl.Ring
		code, place int64
	}{
		{nil, impl.LyOk, 0}, {[]impl.Ring{}, impl.LyOk, 0}, {threes(6), impl.LyOk, 0}, {threes(7), impl.LyMany, 0}, {make([]impl.Ring, 7), impl.LyMany, 0}, {layer(append(threes(6), bow(13))...), impl.LyMany, 0},
		{layer(bow(12), moved(bow(8), spot(500, 0), 1)), impl.LyOk, 0}, {layer(bow(12), moved(bow(9), spot(500, 0), 1)), impl.LySpots, 0},
		{layer(bow(20)), impl.LyRing + impl.RgMany, 0}, {layer(bow(21)), impl.LySpots, 0}, {layer(bow(12), bow(9)), impl.LySpots, 0}, {layer(few, bow(19)), impl.LySpots, 0}, {layer(few, bow(18)), impl.LyRing + impl.RgFew, 0},
		{layer(ring()), impl.LyRing + impl.RgFew, 0}, {layer(three(0), ring()), impl.LyRing + impl.RgFew, 1}, {layer(three(0), bow(13)), impl.LyRing + impl.RgMany, 1},
		{layer(three(0), three(1), ring(0, 0, edge+1, 0, 0, 1)), impl.LyRing + impl.RgCoord, 2}, {layer(three(0), ring(0, 0, 1, 0, 0, 0), cross), impl.LyRing + impl.RgTwice, 1}, {layer(cross, three(0), few), impl.LyRing + impl.RgCross, 0},
		// A ring that is not right is told ahead of all that meet, wherever it stands.
		{layer(three(0), three(0), few), impl.LyRing + impl.RgFew, 2}, {layer(three(0), three(0)), impl.LyMeet, 1}, {layer(three(0), three(1), three(0), three(1)), impl.LyMeet, 2},
		{layer(three(0), three(1), three(2), three(1), three(0)), impl.LyMeet, 3}, {layer(three(0), three(1), three(2), three(3), three(4), three(0)), impl.LyMeet, 5},
		// Rings that only touch do meet: at a corner, by a corner on a side, along a side, from outside and from within.
		{layer(square(0, 0, 4), square(4, 4, 4)), impl.LyMeet, 1}, {layer(square(0, 0, 4), ring(4, 2, 6, 1, 6, 3)), impl.LyMeet, 1}, {layer(square(0, 0, 4), square(4, 0, 4)), impl.LyMeet, 1},
		{layer(square(0, 0, 4), square(0, 0, 2)), impl.LyMeet, 1}, {layer(square(0, 0, 4), ring(0, 2, 2, 1, 2, 3)), impl.LyMeet, 1}, {layer(square(1, 1, 2), square(0, 0, 4), square(3, 3, 1)), impl.LyMeet, 2},
		{layer(square(0, 0, 4), square(1, 1, 2)), impl.LyOk, 0}, {layer(square(1, 1, 2), square(0, 0, 4), square(5, 0, 4)), impl.LyOk, 0},
	} {
		code, place := impl.LayerFault(c.l)
		if code != c.code || place != c.place {
			t.Error(i, code, place, c.code, c.place)
		}
	}
}

func TestLayerSides(t *testing.T) {
	t.Parallel()
	seen := map[int64]int{}
	for i, l := range rightLayers() {
		check := func(p impl.Point) {
			got, want := impl.LayerSide(l, p), layerSideWanted(l, p)
			if got != want {
				t.Error(l, p, got, want)
			}
			seen[got]++
		}
		check(point(0, 0, 1))
		for _, r := range l {
			points := nearPoints(r)
			for j := i % 5; j < len(points); j += 5 {
				check(points[j])
			}
		}
	}
	if seen[impl.SdIn] < 500 || seen[impl.SdOn] < 500 || seen[impl.SdOut] < 500 || len(seen) != 3 {
		t.Error("too few of a kind", seen)
	}
}

func TestLayersOfOurOwn(t *testing.T) {
	nest := layer(square(4, 4, 2), square(2, 2, 6), turnedWanted(square(0, 0, 10)), square(3, 3, 4), square(20, 20, 1))
	for i, depth := range []int64{3, 1, 0, 2, 0} {
		if got := impl.DepthOf(nest, int64(i)); got != depth {
			t.Error("depth", i, got, depth)
		}
	}
	for _, i := range []int64{-1, 5, 6, math.MaxInt64, math.MinInt64, -5, 1 << 32} {
		if got := impl.DepthOf(nest, i); got != -1 {
			t.Error("depth of none", i, got)
		}
	}
	if got := impl.LayerArea2(nest); got != 2*(100-36+16-4+1) {
		t.Error("area", got)
	}
	for _, c := range []struct {
		p    impl.Point
		want int64
	}{
		{point(1, 1, 1), impl.SdIn}, {point(5, 5, 2), impl.SdOut}, {point(7, 7, 2), impl.SdIn}, {point(5, 5, 1), impl.SdOut}, {point(41, 41, 2), impl.SdIn}, {point(11, 5, 1), impl.SdOut},
		{point(0, 0, 1), impl.SdOn}, {point(0, 5, 1), impl.SdOn}, {point(5, 2, 1), impl.SdOn}, {point(3, 7, 1), impl.SdOn}, {point(9, 4, 2), impl.SdOn}, {point(21, 21, 1), impl.SdOn}, {point(5, 10, 1), impl.SdOn},
		{point(-1, 2, 1), impl.SdOut}, {point(9, 2, 1), impl.SdIn}, {point(2, 9, 1), impl.SdIn}, {point(2, 11, 1), impl.SdOut}, {point(15, 20, 1), impl.SdOut},
	} {
		if got := impl.LayerSide(nest, c.p); got != c.want {
			t.Error("side", c.p, got, c.want)
		}
	}
	if impl.LayerArea2(nil) != 0 || impl.LayerSide(nil, point(1, 2, 3)) != impl.SdOut || impl.DepthOf(nil, 0) != -1 || len(impl.LayerSegs(nil)) != 0 {
		t.Error("no rings")
	}
	all := layer(ring(-edge, -edge, edge, -edge, edge, edge, -edge, edge), square(0, 0, 1))
	if got := impl.LayerArea2(all); got != 8*edge*edge-2 {
		t.Error("all there is", got)
	}
}

func TestLayerDepthsAndAreas(t *testing.T) {
	deep := map[int64]int{}
	for _, l := range rightLayers() {
		area := int64(0)
		for i, r := range l {
			depth := impl.DepthOf(l, int64(i))
			if want := depthWanted(l, i); depth != want {
				t.Error("depth", l, i, depth, want)
			}
			within := int64(0)
			for j, other := range l {
				if j != i && impl.RingIn(r, other) {
					within++
				}
			}
			if within != depth {
				t.Error("within", l, i, within, depth)
			}
			area += impl.RingArea2(impl.RingForm(r)) * (1 - 2*(depth%2))
			deep[depth]++
		}
		if impl.DepthOf(l, int64(len(l))) != -1 || impl.DepthOf(l, -1) != -1 {
			t.Error("a ring that is not there", l)
		}
		if got := impl.LayerArea2(l); got != layerAreaWanted(l) || got != area {
			t.Error("area", l, got, area)
		}
	}
	if deep[0] < 30 || deep[1] < 30 || deep[2] < 5 || deep[3] < 1 || deep[4] < 1 {
		t.Error("too few of a kind", deep)
	}
}

// TestLayerAreasByCounting takes rings of level and upright sides: each square of one by one is in it or not, as its middle is.
func TestLayerAreasByCounting(t *testing.T) {
	d := dice(59)
	most := 0
	for range 60 {
		var l []impl.Ring
		for range 60 {
			x, y := int64(d.word()%12), int64(d.word()%12)
			w, h := 1+int64(d.word()%uint64(13-x)), 1+int64(d.word()%uint64(13-y))
			if more := append(slices.Clone(l), ring(x, y, x, y+h, x+w, y+h, x+w, y)); isRightLayer(more) {
				l = more
			}
		}
		count := int64(0)
		for x := range int64(14) {
			for y := range int64(14) {
				if impl.LayerSide(l, point(2*x+1, 2*y+1, 2)) == impl.SdIn {
					count++
				}
			}
		}
		if got := impl.LayerArea2(l); got != 2*count {
			t.Error(l, got, 2*count)
		}
		most = max(most, len(l))
	}
	if most < 4 {
		t.Error("too few rings", most)
	}
}

func TestLayerSegs(t *testing.T) {
	for _, l := range rightLayers() {
		var want []impl.Seg
		for _, r := range l {
			want = append(want, segsWanted(r)...)
		}
		slices.SortFunc(want, func(s, q impl.Seg) int {
			if c := placeAt(s.A).order(placeAt(q.A)); c != 0 {
				return int(c)
			}
			return int(placeAt(s.B).order(placeAt(q.B)))
		})
		if got := impl.LayerSegs(l); !slices.Equal(got, want) {
			t.Error(l, got, want)
		}
	}
	got := impl.LayerSegs(layer(ring(5, 5, 9, 5, 9, 9), ring(2, 2, 3, 2, 2, 3)))
	want := []impl.Seg{seg(2, 2, 2, 3), seg(2, 2, 3, 2), seg(2, 3, 3, 2), seg(5, 5, 9, 5), seg(5, 5, 9, 9), seg(9, 5, 9, 9)}
	if !slices.Equal(got, want) {
		t.Error(got)
	}
}

func TestWrongLayersAreRefused(t *testing.T) {
	for _, wrong := range wrongLayers() {
		if code, _ := impl.LayerFault(wrong); code == impl.LyOk {
			t.Error("right", wrong)
		}
		if impl.LayerArea2(wrong) != 0 || len(impl.LayerSegs(wrong)) != 0 {
			t.Error(wrong)
		}
		for i := int64(-1); i <= int64(len(wrong)); i++ {
			if impl.DepthOf(wrong, i) != -1 {
				t.Error("depth", wrong, i)
			}
		}
		for _, p := range append(wrongPoints(), point(0, 0, 1), point(1, 1, 2)) {
			if got := impl.LayerSide(wrong, p); got != impl.SdNone {
				t.Error("side", wrong, p, got)
			}
		}
	}
	for _, p := range wrongPoints() {
		for _, l := range rightLayers()[:12] {
			if got := impl.LayerSide(l, p); got != impl.SdNone {
				t.Error("wrong point", l, p, got)
			}
		}
	}
}

// textWanted tells nothing but what any layer's text would be if there were no limits.
func textWanted(l []impl.Ring) string {
	if len(l) == 0 {
		return "none"
	}
	var rings []string
	for _, r := range l {
		var spots []string
		for _, s := range r.Spots {
			spots = append(spots, fmt.Sprintf("%d %d", s.X, s.Y))
		}
		rings = append(rings, strings.Join(spots, " "))
	}
	return strings.Join(rings, " / ")
}

// longParts has 20 spots in 6 rings, of parts of 15 digits below 0: no text of a layer is longer.
func longParts() []impl.Ring {
	l := make([]impl.Ring, 6)
	for i := range int64(20) {
		r := &l[i%6]
		r.Spots = append(r.Spots, spot(i-999999999999999, -100000000000000-i))
	}
	return l
}

func TestLayerTexts(t *testing.T) {
	check := func(l []impl.Ring) {
		text := impl.LayerText(l)
		if text != textWanted(l) {
			t.Error(l, text)
		}
		back, ok := impl.ReadLayer(text)
		if !ok || !sameLayer(back, l) {
			t.Error("read", text, back, ok)
		}
	}
	for _, l := range rightLayers() {
		check(l)
	}
	thrownLayers(func(l []impl.Ring) {
		if spotsOf(l) <= 20 {
			check(l)
		}
	})
	for _, l := range [][]impl.Ring{
		{ring(0, 0)}, {ring(0, 0), ring(0, 0)}, {ring(1, 1, 1, 1, 1, 1)}, {bow(13)}, {bow(20)}, threes(6), {ring(0, 0), ring(-1, 1), ring(2, -2), ring(3, 3), ring(4, 4), bow(15)},
		{ring(999999999999999, -999999999999999)}, {ring(edge+1, -edge-1)}, {ring(100000000000000, 99999999999999)}, longParts(),
	} {
		check(l)
	}
	if n := len(impl.LayerText(longParts())); n != 40*16+39+10 {
		t.Error("the longest text", n)
	}
}

func TestLayersWithoutText(t *testing.T) {
	for i, l := range [][]impl.Ring{
		threes(7), make([]impl.Ring, 7), make([]impl.Ring, 1), {three(0), {}}, {{}, three(0)}, {three(0), {Spots: []impl.Spot{}}, three(1)}, {bow(21)}, {bow(20), ring(0, 0)}, {bow(12), bow(9)},
		{ring(1000000000000000, 0)}, {ring(0, 1000000000000000)}, {ring(-1000000000000000, 0)}, {ring(0, -1000000000000000)}, {ring(math.MaxInt64, 0)}, {ring(0, math.MinInt64)}, {ring(math.MinInt64, 0)},
		{three(0), three(1), ring(0, 0, 1, 0, 0, 1, 5, 1000000000000000)}, {ring(0, 0, 1000000000000000, 1), three(0)},
	} {
		if got := impl.LayerText(l); got != "" {
			t.Error(i, got)
		}
		if got, ok := impl.ReadLayer(textWanted(l)); ok || len(got) != 0 {
			t.Error("read", i, got, ok)
		}
	}
}

// layerForm is what the text of a layer with rings looks like, but for how many rings and spots there are.
var layerForm = func() *regexp.Regexp {
	part := `(?:0|-?[1-9][0-9]{0,14})`
	spot := part + ` ` + part
	ring := spot + `(?: ` + spot + `)*`
	return regexp.MustCompile(`\A` + ring + `(?: / ` + ring + `)*\z`)
}()

func isLayerText(s string) bool {
	if s == "none" {
		return true
	}
	rings := strings.Count(s, "/") + 1
	parts := len(strings.Fields(s)) - rings + 1
	return layerForm.MatchString(s) && rings <= 6 && parts <= 40
}

func checkLayerText(t *testing.T, s string) bool {
	t.Helper()
	l, ok := impl.ReadLayer(s)
	if ok != isLayerText(s) {
		t.Errorf("%q: %v", s, ok)
	}
	if !ok && len(l) != 0 {
		t.Errorf("%q: refused, but %v", s, l)
	}
	if ok && (textWanted(l) != s || impl.LayerText(l) != s) {
		t.Errorf("%q: read as %v", s, l)
	}
	return ok
}

func TestReadLayerOfWrongTexts(t *testing.T) {
	long := strings.TrimSuffix(strings.Repeat("1 2 ", 21), " ")
	for _, s := range []string{
		"", " ", "none ", " none", "None", "non", "nonee", "none / none", "1 2 / none", "none / 1 2", "1", "1 2 3", "1 2 / 3", "1 / 2 3", "/", " / ", "1 2 /", "1 2 / ", "/ 1 2", " / 1 2",
		"1 2/3 4", "1 2 /3 4", "1 2/ 3 4", "1 2 / / 3 4", "1 2 /  / 3 4", "1 2  / 3 4", "1 2 /  3 4", "1 2 // 3 4", " 1 2", "1 2 ", "1  2", "1\t2", "1\n2", "1 2\n", "1,2", "1 2\x00", "1\u00a02", "1\r2",
		"+1 2", "-0 2", "2 -0", "01 2", "1 02", "-01 2", "00 1", "--1 2", "- 1", "1 -", "1- 2", "1e3 2", "0x1 2", "1_0 2", "1.0 2", "1 2.", "\u0661 2", "\xff 2", "1 2 / \xff",
		"1000000000000000 1", "1 -1000000000000000", "0999999999999999 1", "9223372036854775807 0", "18446744073709551617 1", "0 -9223372036854775808", "340282366920938463463374607431768211457 1",
		long, long + " 1", "1 2 / 1 2 / 1 2 / 1 2 / 1 2 / 1 2 / 1 2",
	} {
		if checkLayerText(t, s) {
			t.Errorf("%q is no text", s)
		}
	}
	for _, s := range []string{"none", "0 0", "-1 1", "999999999999999 -999999999999999", long[:len(long)-4], "1 2 / 1 2 / 1 2 / 1 2 / 1 2 / 1 2", "1 2 3 4 / 5 6"} {
		if !checkLayerText(t, s) {
			t.Errorf("%q is a text", s)
		}
	}
}

// TestReadLayerOfTextsWithAFlaw puts in, takes out and changes one byte at each place.
func TestReadLayerOfTextsWithAFlaw(t *testing.T) {
	seen := map[bool]int{}
	for _, text := range []string{"none", "0 0", "-10 20 / 3 -4", impl.LayerText(threes(3)), impl.LayerText(threes(6)), "1 2 3 4 5 6 / 999999999999999 -999999999999999 / 0 -7"} {
		for i := range len(text) + 1 {
			for _, b := range []byte("0-19/ +n.\t\n\x00\xff") {
				seen[checkLayerText(t, text[:i]+string([]byte{b})+text[i:])]++
				if i < len(text) {
					seen[checkLayerText(t, text[:i]+string([]byte{b})+text[i+1:])]++
				}
			}
			if i < len(text) {
				seen[checkLayerText(t, text[:i]+text[i+1:])]++
			}
			seen[checkLayerText(t, text[:i])]++
			seen[checkLayerText(t, text[i:])]++
		}
	}
	if seen[true] < 100 || seen[false] < 100 {
		t.Error("too few of a kind", seen)
	}
}

func TestReadLayerOfLongTexts(t *testing.T) {
	long := impl.LayerText(longParts())
	for _, n := range []int{1998, 1999, 2000, 2001, 2002, 100000} {
		for _, s := range []string{
			strings.Repeat("1 ", n)[:n], strings.Repeat("12", n)[:n], strings.Repeat("1 2 / ", n)[:n], strings.Repeat(" ", n), "none" + strings.Repeat(" ", n-4),
			long + strings.Repeat(" ", n-len(long)), strings.Repeat("0", n-len(long)) + long, long[:len(long)-1] + strings.Repeat("1", n-len(long)+1),
		} {
			if l, ok := impl.ReadLayer(s); ok || len(l) != 0 || len(s) != n {
				t.Error(n, len(s), ok)
			}
		}
	}
}

func TestLayersLeaveMemoryAlone(t *testing.T) {
	for _, l := range append(rightLayers(), wrongLayers()...) {
		ours := make([]impl.Ring, len(l), len(l)+2)
		spare := impl.Ring{Spots: []impl.Spot{spot(71, 72)}}
		ours[:len(l)+1][len(l)], ours[:len(l)+2][len(l)+1] = spare, spare
		var rows, was [][]impl.Spot
		for i, r := range l {
			inner, row := roomy(r)
			ours[i] = inner
			rows, was = append(rows, row), append(was, slices.Clone(row))
		}
		for range 2 {
			segs, text := impl.LayerSegs(ours), impl.LayerText(ours)
			code, place := impl.LayerFault(ours)
			area, depth, side := impl.LayerArea2(ours), impl.DepthOf(ours, 0), impl.LayerSide(ours, point(1, 1, 2))
			wantCode, wantPlace := impl.LayerFault(l)
			if !slices.Equal(segs, impl.LayerSegs(l)) || text != impl.LayerText(l) || code != wantCode || place != wantPlace {
				t.Error("another answer", l)
			}
			if area != impl.LayerArea2(l) || depth != impl.DepthOf(l, 0) || side != impl.LayerSide(l, point(1, 1, 2)) {
				t.Error("another answer", l)
			}
			scribble(segs)
			if !slices.EqualFunc(rows, was, slices.Equal[[]impl.Spot]) || !sameLayer(ours, l) || !sameLayer(ours[:len(l)+2][len(l):], layer(spare, spare)) {
				t.Fatal("written into", l)
			}
		}
	}
}

func TestReadLayersShareNothing(t *testing.T) {
	for _, l := range rightLayers() {
		text := textWanted(l)
		for i := range l {
			got, _ := impl.ReadLayer(text)
			other, _ := impl.ReadLayer(text)
			scribble(got[i].Spots)
			for j := range l {
				if j != i && !sameRing(got[j], l[j]) {
					t.Error("two rings share", text, i, j)
				}
			}
			scribble(got)
			if !sameLayer(other, l) {
				t.Error("two answers share", text)
			}
		}
	}
}
