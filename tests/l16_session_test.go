package tests

import (
	"fmt"
	"math/big"
	"regexp"
	"slices"
	"strconv"
	"strings"
	"testing"

	"loop.example/g00225/impl"
)

func session(a, b []impl.Ring) impl.Session { return impl.Session{A: a, B: b} }

func sameSession(s, u impl.Session) bool { return sameLayer(s.A, u.A) && sameLayer(s.B, u.B) }

func savedWanted(s impl.Session) string { return "a " + textWanted(s.A) + " b " + textWanted(s.B) }

// lineForms are what each line looks like. What stands in brackets is a layer, a text or all numbers.
var lineForms = func() map[string]*regexp.Regexp {
	number := `(?:0|-?[1-9][0-9]{0,14})`
	spot := ` +` + number + ` +` + number
	out := map[string]*regexp.Regexp{}
	for word, rest := range map[string]string{
		"load": ` +([ab]) +([^ ].*?)`, "area": ` +([ab])`, "side": ` +([ab])(` + spot + `)`, "at": `(` + spot + `)`, "near": `(` + spot + `)`, "window": `(` + spot + spot + `)`, "path": `((?:` + spot + `)+)`,
		"map": ``, "traps": ``, "relate": ``, "or": ``, "and": ``, "less": ``, "xor": ``, "save": ``,
	} {
		out[word] = regexp.MustCompile(`(?s)\A *` + word + rest + ` *\z`)
	}
	return out
}()

var blanks = regexp.MustCompile(` +`)

// numbersIn are spots, by pairs.
func numbersIn(s string) []impl.Spot {
	var n []int64
	for _, word := range strings.Fields(s) {
		i, err := strconv.ParseInt(word, 10, 64)
		if err != nil {
			panic(err)
		}
		n = append(n, i)
	}
	return way(n...)
}

// layerFrom reads what is a layer's text.
func layerFrom(text string) []impl.Ring {
	if text == "none" {
		return nil
	}
	var out []impl.Ring
	for _, part := range strings.Split(text, "/") {
		out = append(out, impl.Ring{Spots: numbersIn(part)})
	}
	return out
}

func loadWanted(text string) ([]impl.Ring, string, bool) {
	text = blanks.ReplaceAllString(text, " ")
	if !isLayerText(text) {
		return nil, "no text", false
	}
	l := layerFrom(text)
	if code, place := layerFaultWanted(l); code != impl.LyOk {
		return nil, fmt.Sprint("no ", code, " ", place), false
	}
	return l, fmt.Sprint("ok ", len(l)), true
}

func sideNamed(l []impl.Ring, p impl.Spot) string {
	return map[int64]string{impl.SdIn: "in", impl.SdOn: "on", impl.SdOut: "out"}[layerSideAt(l, placeAt(p))]
}

func isRightSpot(p impl.Spot) bool {
	return -edge <= p.X && p.X <= edge && -edge <= p.Y && p.Y <= edge
}

func nearWanted(segs []impl.Seg, p impl.Spot) string {
	if len(segs) == 0 || !isRightSpot(p) {
		return "none"
	}
	best := 0
	far := farWanted(segs[0], p)
	for i, s := range segs {
		if own := farWanted(s, p); own.Cmp(far) < 0 {
			best, far = i, own
		}
	}
	return fmt.Sprint("near ", best, " ", far.RatString())
}

func windowNamed(segs []impl.Seg, low, high impl.Spot) string {
	if !isRightSpot(low) || !isRightSpot(high) || low.X > high.X || low.Y > high.Y {
		return "none"
	}
	out := "window"
	for i, s := range segs {
		if !inBox(s, placeAt(low), placeAt(high)).empty {
			out += fmt.Sprint(" ", i)
		}
	}
	return out
}

func pathWanted(segs []impl.Seg, path []impl.Spot) string {
	if len(path) <= 12 && !slices.ContainsFunc(path, func(p impl.Spot) bool { return !isRightSpot(p) }) && freeWanted(segs, path) {
		return "free"
	}
	return "met"
}

func (l *laid) atWanted(p impl.Spot) string {
	c := l.cellWanted(placeAt(p))
	kind := map[int64]string{impl.CkVertex: "vertex", impl.CkEdge: "edge", impl.CkFace: "face"}[c.Kind]
	return fmt.Sprint(kind, " ", c.Id, " ", sideNamed(l.a, p), " ", sideNamed(l.b, p))
}

func relateWanted(a, b []impl.Ring) string {
	if len(a) == 0 || len(b) == 0 {
		return "no 2"
	}
	out := relationWanted(a, b)
	m := out
	for _, name := range relationNames() {
		if namedWanted(m, name) {
			out += " " + name
		}
	}
	return out
}

func (l *laid) takenWanted(op int64) string {
	loops := l.loopsWanted(l.taken(op))
	area := "?"
	if _, told := loopsAreaWanted(loops); told {
		area = loopsAreaOf(loops).RatString()
	}
	return fmt.Sprint("loops ", len(loops), " area ", area)
}

// wordWanted answers a line of which the form is right, but for load.
func wordWanted(s impl.Session, word string, l []impl.Ring, spots []impl.Spot) string {
	segs := overlaidWanted(s.A, s.B)
	ops := map[string]int64{"or": impl.OpOr, "and": impl.OpAnd, "less": impl.OpLess, "xor": impl.OpXor}
	switch word {
	case "area":
		return fmt.Sprint("area ", layerAreaWanted(l))
	case "side":
		return sideNamed(l, spots[0])
	case "at":
		return layOver(s.A, s.B).atWanted(spots[0])
	case "near":
		return nearWanted(segs, spots[0])
	case "window":
		return windowNamed(segs, spots[0], spots[1])
	case "path":
		return pathWanted(segs, spots)
	case "map":
		n := facesWanted(segs).counts()
		return fmt.Sprint("map ", n[0], " ", n[1], " ", n[2], " ", n[3])
	case "traps":
		n := facesWanted(segs).counts()
		return fmt.Sprint("traps ", n[0]+n[1]+1)
	case "relate":
		return relateWanted(s.A, s.B)
	case "save":
		return savedWanted(s)
	}
	return layOver(s.A, s.B).takenWanted(ops[word])
}

// lineWanted is what SessionDo answers a right session, worked out by other ways.
func lineWanted(s impl.Session, line string) (impl.Session, string) {
	if len(line) > 400 {
		return impl.Session{}, ""
	}
	if strings.Trim(line, " ") == "" {
		return s, ""
	}
	for word, form := range lineForms {
		found := form.FindStringSubmatch(line)
		if found == nil {
			continue
		}
		to := &s.A
		if len(found) > 1 && found[1] == "b" {
			to = &s.B
		}
		if word == "load" {
			l, answer, ok := loadWanted(found[2])
			if ok {
				*to = l
			}
			return s, answer
		}
		var spots []impl.Spot
		if word != "area" && len(found) > 1 {
			spots = numbersIn(found[len(found)-1])
		}
		return s, wordWanted(s, word, *to, spots)
	}
	return s, "what"
}

// checkLine asks a right session, and tells what it was and what was answered.
func checkLine(t *testing.T, s impl.Session, line string) (impl.Session, string) {
	t.Helper()
	want, wantAnswer := lineWanted(s, line)
	got, answer := impl.SessionDo(s, line)
	if answer != wantAnswer || !sameSession(got, want) {
		t.Fatalf("%s: %q: %q %v, wanted %q %v", savedWanted(s), line, answer, got, wantAnswer, want)
	}
	return got, answer
}

// checkAnswer asks for an answer that stands here, and that leaves the session as it was.
func checkAnswer(t *testing.T, s impl.Session, line, want string) {
	t.Helper()
	got, answer := impl.SessionDo(s, line)
	if answer != want || !sameSession(got, s) {
		t.Errorf("%s: %q: %q %v, wanted %q", savedWanted(s), line, answer, got, want)
	}
	if len(line) <= 400 {
		checkLine(t, s, line)
	}
}

// ourSessions have no rings, one layer alone, and both.
func ourSessions() []impl.Session {
	four, holed := layer(square(0, 0, 4)), layer(square(0, 0, 9), square(3, 3, 3))
	return []impl.Session{session(nil, nil), session([]impl.Ring{}, []impl.Ring{}), session(four, nil), session(nil, four), session(holed, four), session(four, four), session(four, layer(square(2, 2, 4))), session(threes(6), strips(5, true))}
}

// ourLines are those of the document's table, of as few words as there may be, with answers of all kinds.
func ourLines() []string {
	return []string{
		"load a none", "load b none", "load a 0 0 2 0 0 2", "load b 1 1 3 1 3 3 1 3", "area a", "area b", "side a 1 1", "side b 1 1", "at 1 1", "at 4 2", "at 0 0", "near 1 1", "near 1 -7", "window 0 0 1 1", "window 1 1 2 2", "path 1 1", "path 1 1 9 9", "path 1 1 2 2",
		"map", "traps", "relate", "or", "and", "less", "xor", "save",
	}
}

func lineWords() []string {
	return []string{"load", "area", "side", "at", "near", "window", "path", "map", "traps", "relate", "or", "and", "less", "xor", "save"}
}

func TestSessionConstants(t *testing.T) {
	if impl.MaxLine != 400 || impl.MaxScript != 40 || impl.MaxLines != 4000 {
		t.Error("limits")
	}
}

func TestRightSessions(t *testing.T) {
	for _, l := range rightLayers() {
		if !impl.SessionOk(session(l, nil)) || !impl.SessionOk(session(nil, l)) || !impl.SessionOk(session(l, l)) || !impl.SessionOk(session(threes(6), l)) {
			t.Error("right", l)
		}
	}
	if !impl.SessionOk(impl.Session{}) {
		t.Error("no rings")
	}
	for _, wrong := range wrongLayers() {
		if impl.SessionOk(session(wrong, nil)) || impl.SessionOk(session(nil, wrong)) || impl.SessionOk(session(wrong, wrong)) || impl.SessionOk(session(threes(6), wrong)) || impl.SessionOk(session(wrong, threes(1))) {
			t.Error("wrong", wrong)
		}
	}
}

func TestWrongSessionsAreNotAnswered(t *testing.T) {
	for _, wrong := range wrongLayers() {
		for _, s := range []impl.Session{session(wrong, nil), session(nil, wrong), session(wrong, wrong), session(threes(2), wrong), session(wrong, threes(2))} {
			for _, line := range append(ourLines(), "", "  ", "fly", "map 1", "load c 0 0", "load a", "load a x", "load a 0 0", strings.Repeat(" ", 401), strings.Repeat("x", 4000)) {
				if got, answer := impl.SessionDo(s, line); answer != "" || len(got.A) != 0 || len(got.B) != 0 {
					t.Fatalf("%v: %q: %q %v", s, line, answer, got)
				}
			}
		}
	}
}

func TestLinesOfOurOwn(t *testing.T) {
	none, four := session(nil, nil), layer(square(0, 0, 4))
	onlyA, onlyB, same := session(four, nil), session(nil, four), session(four, four)
	holed := session(layer(square(0, 0, 9), square(3, 3, 3)), four)
	cut := session(four, layer(square(2, 2, 4)))
	for _, c := range []struct {
		s     impl.Session
		lines map[string]string
	}{
		{none, map[string]string{
			"area a": "area 0", "area b": "area 0", "side a 0 0": "out", "side b 0 0": "out", "at 0 0": "face 0 out out", "near 0 0": "none", "window 0 0 1 1": "window", "window 0 0 0 0": "window", "window 1 0 0 0": "none", "path 0 0": "free", "path 0 0 9 9 0 0": "free",
			"map": "map 0 0 1 0", "traps": "traps 1", "relate": "no 2", "or": "loops 0 area 0", "and": "loops 0 area 0", "less": "loops 0 area 0", "xor": "loops 0 area 0", "save": "a none b none",
		}},
		{onlyA, map[string]string{
			"area a": "area 32", "area b": "area 0", "side a 1 1": "in", "side a 4 4": "on", "side a 0 2": "on", "side a 5 2": "out", "side b 1 1": "out", "side b 0 0": "out",
			"at 1 1": "face 1 in out", "at 0 0": "vertex 0 on out", "at 4 4": "vertex 3 on out", "at 0 1": "edge 0 on out", "at 4 1": "edge 3 on out", "at 5 5": "face 0 out out",
			"near 2 1": "near 1 1", "near 0 0": "near 0 0", "near 9 9": "near 2 50", "near 3 7": "near 2 9", "window 1 1 2 2": "window", "window 0 0 0 0": "window 0 1", "window -1 -1 5 5": "window 0 1 2 3", "path 1 1 3 3": "free", "path 1 1 4 4": "met", "path 0 0": "met", "path 1 1": "free",
			"map": "map 4 4 2 1", "traps": "traps 9", "relate": "no 2", "or": "loops 1 area 32", "and": "loops 0 area 0", "less": "loops 1 area 32", "xor": "loops 1 area 32", "save": "a 0 0 4 0 4 4 0 4 b none",
		}},
		{onlyB, map[string]string{
			"area a": "area 0", "area b": "area 32", "side a 1 1": "out", "side b 1 1": "in", "side b 4 4": "on", "side b -1 0": "out", "at 1 1": "face 1 out in", "at 0 0": "vertex 0 out on", "at 2 0": "edge 1 out on", "at -1 0": "face 0 out out",
			"near 2 1": "near 1 1", "window 4 4 9 9": "window 2 3", "path 5 5 5 0": "free", "path 3 3 5 3": "met", "map": "map 4 4 2 1", "traps": "traps 9", "relate": "no 2", "or": "loops 1 area 32", "and": "loops 0 area 0", "less": "loops 0 area 0", "xor": "loops 1 area 32", "save": "a none b 0 0 4 0 4 4 0 4",
		}},
		{same, map[string]string{
			"area a": "area 32", "area b": "area 32", "side a 2 2": "in", "side b 2 2": "in", "at 2 2": "face 1 in in", "at 0 0": "vertex 0 on on", "at 2 0": "edge 1 on on", "at 2 -1": "face 0 out out", "near 2 1": "near 1 1", "window 0 0 0 0": "window 0 1 4 5", "path 1 1 2 2 3 3 1 1": "free",
			"map": "map 4 4 2 1", "traps": "traps 9", "relate": "2FFF1FFF2 equals within contains intersects", "or": "loops 1 area 32", "and": "loops 1 area 32", "less": "loops 0 area 0", "xor": "loops 0 area 0", "save": "a 0 0 4 0 4 4 0 4 b 0 0 4 0 4 4 0 4",
		}},
		{holed, map[string]string{
			"area a": "area 144", "area b": "area 32", "side a 4 4": "out", "side a 3 4": "on", "side b 4 4": "on", "side a 1 4": "in", "side b 1 4": "on", "at 4 4": "vertex 8 out on", "at 0 2": "edge 0 on on", "at 5 5": "face 4 out out", "at 2 2": "face 1 in in",
			"near 5 4": "near 4 1", "window 5 4 5 5": "window", "window 4 4 4 4": "window 10 11", "path 5 5 5 4": "free", "map": "map 13 16 5 1", "traps": "traps 30", "or": "loops 2 area 146", "and": "loops 1 area 30", "less": "loops 1 area 114", "xor": "loops 2 area 116", "save": "a 0 0 9 0 9 9 0 9 / 3 3 6 3 6 6 3 6 b 0 0 4 0 4 4 0 4",
		}},
		{cut, map[string]string{"at 3 3": "face 2 in in", "at 5 5": "face 3 out in", "at 1 1": "face 1 in out", "at 4 2": "vertex 6 on on", "at 4 3": "edge 9 on in", "map": "map 10 12 4 1", "traps": "traps 23", "relate": "212101212 overlaps intersects", "or": "loops 1 area 56", "and": "loops 1 area 8", "less": "loops 1 area 24", "xor": "loops 2 area 48"}},
	} {
		for line, want := range c.lines {
			checkAnswer(t, c.s, line, want)
			// Blanks ahead, behind and between, one and several, change nothing.
			checkAnswer(t, c.s, " "+line+" ", want)
			checkAnswer(t, c.s, "   "+strings.ReplaceAll(line, " ", "   ")+"     ", want)
		}
		for _, line := range []string{"", " ", "  ", strings.Repeat(" ", 399), strings.Repeat(" ", 400)} {
			checkAnswer(t, c.s, line, "")
		}
	}
}

func TestRelateLinesOfOurOwn(t *testing.T) {
	four := layer(square(0, 0, 4))
	for _, c := range []struct {
		s    impl.Session
		want string
	}{
		{session(four, layer(square(9, 0, 4))), "FF2FF1212 disjoint"}, {session(four, layer(square(4, 4, 4))), "FF2F01212 touches intersects"}, {session(four, layer(square(4, 0, 4))), "FF2F11212 touches intersects"}, {session(layer(square(1, 1, 2)), four), "2FF1FF212 within intersects"}, {session(four, layer(square(1, 1, 2))), "212FF1FF2 contains intersects"},
		{session(four, layer(square(2, 2, 4))), "212101212 overlaps intersects"}, {session(four, layer(turnedWanted(square(0, 0, 4)))), "2FFF1FFF2 equals within contains intersects"}, {session(four, nil), "no 2"}, {session(nil, four), "no 2"}, {session(nil, nil), "no 2"},
	} {
		checkAnswer(t, c.s, "relate", c.want)
	}
}

// TestUntoldAreas has loops that are too long, too many, of too many points, and areas with too great a part.
func TestUntoldAreas(t *testing.T) {
	great := session(layer(ring(-edge, -edge+1, edge-3, -edge+7, 11, edge)), layer(ring(-edge+5, edge-17, 7, -edge, edge, edge-29)))
	crossed := session(strips(5, false), strips(5, true))
	for line, want := range map[string]string{"or": "loops 17 area ?", "xor": "loops 60 area ?", "and": "loops 25 area 50", "less": "loops 30 area 170"} {
		checkAnswer(t, crossed, line, want)
	}
	for line, want := range map[string]string{"or": "loops 1 area ?", "and": "loops 1 area ?", "xor": "loops 6 area ?", "less": "loops 3 area ?"} {
		checkAnswer(t, great, line, want)
	}
	broken := session(layer(ring(0, 0, 7, 1, 2, 5)), layer(ring(1, -1, 5, 6, 0, 3)))
	for _, line := range []string{"or", "and", "less", "xor"} {
		if _, answer := checkLine(t, broken, line); !strings.Contains(answer, "/") {
			t.Error("no broken area", line, answer)
		}
	}
}

func TestSpotsThatAreNotRight(t *testing.T) {
	four := layer(square(0, 0, 4))
	most := "999999999999999"
	for _, s := range []impl.Session{session(nil, nil), session(four, nil), session(nil, four), session(four, layer(square(2, 2, 4)))} {
		for _, far := range []string{"1000001 0", "0 1000001", "-1000001 2", "2 -1000001", most + " " + most, "-" + most + " -" + most, "0 -" + most, most + " 1"} {
			checkAnswer(t, s, "side a "+far, "out")
			checkAnswer(t, s, "side b "+far, "out")
			checkAnswer(t, s, "at "+far, "face 0 out out")
			checkAnswer(t, s, "near "+far, "none")
			checkAnswer(t, s, "window "+far+" 9 9", "none")
			checkAnswer(t, s, "window -9 -9 "+far, "none")
			checkAnswer(t, s, "path "+far, "met")
			checkAnswer(t, s, "path 90 90 91 91 "+far, "met")
			checkAnswer(t, s, "path "+far+" 90 90", "met")
		}
		checkAnswer(t, s, "path 1000000 -1000000 1000000 1000000 -1000000 1000000", "free")
		checkAnswer(t, s, "at -1000000 1000000", "face 0 out out")
		if _, answer := checkLine(t, s, "window -1000000 -1000000 1000000 1000000"); answer == "none" {
			t.Error("all there is")
		}
		if _, answer := checkLine(t, s, "near 1000000 1000000"); (answer == "none") != (len(s.A)+len(s.B) == 0) {
			t.Error("from the edge", answer)
		}
	}
	whole := session(layer(square(-edge, -edge, 2*edge)), nil)
	for line, want := range map[string]string{"side a 1000000 0": "on", "side a 1000001 0": "out", "at 1000000 1000000": "vertex 3 on out", "at 0 -1000000": "edge 1 on out", "at 0 -1000001": "face 0 out out", "near -1000000 -1000000": "near 0 0", "path 999999 999999": "free", "path 999999 999999 1000000 999999": "met", "area a": "area 8000000000000"} {
		checkAnswer(t, whole, line, want)
	}
}

func TestWindowsAndWaysOfOurOwn(t *testing.T) {
	s := session(layer(square(0, 0, 4)), layer(ring(6, 0, 9, 0, 6, 3)))
	for line, want := range map[string]string{
		// Windows that are a line or a spot, that touch, and that are no box.
		"window 0 2 9 2": "window 0 3 4 6", "window 2 0 2 9": "window 1 2", "window 2 1 2 3": "window", "window 4 4 4 4": "window 2 3", "window 5 0 5 9": "window", "window 9 0 9 0": "window 5 6", "window 4 4 6 6": "window 2 3", "window 2 0 1 9": "none", "window 0 2 9 1": "none", "window 9 9 0 0": "none", "window 0 0 -1 -1": "none",
		// Ways of one spot and of several, over the same spot, and round the corner.
		"path 5 5": "free", "path 4 4": "met", "path 5 0 5 9": "free", "path 1 1 5 1": "met", "path 5 5 5 5": "free", "path 4 5 5 4": "free", "path 3 5 5 3": "met", "path 5 -1 5 5 -1 5 -1 -1 5 -1": "free",
	} {
		checkAnswer(t, s, line, want)
	}
	for n, want := range map[int]string{1: "free", 2: "free", 11: "free", 12: "free", 13: "met", 14: "met", 40: "met", 98: "met", 99: "met"} {
		checkAnswer(t, s, "path"+strings.Repeat(" 1 1", n), want)
	}
	for n, want := range map[int]string{1: "free", 11: "free", 12: "met", 13: "met"} {
		checkAnswer(t, s, "path"+strings.Repeat(" 1 1", n-1)+" "+map[bool]string{true: "3 3", false: "4 1"}[n < 12], want)
	}
}

func TestLoads(t *testing.T) {
	long := strings.TrimSuffix(strings.Repeat("1 2 ", 21), " ")
	bend := impl.LayerText(layer(bow(12)))
	for _, c := range [][2]string{
		// One word, and several.
		{"none", "ok 0"}, {"0", "no text"}, {"x", "no text"}, {"/", "no text"}, {"None", "no text"}, {"nonE", "no text"}, {"a", "no text"}, {"-", "no text"}, {"none none", "no text"}, {"none 0", "no text"}, {"n one", "no text"}, {"0 0", "no 11 0"}, {"0 0 1", "no text"}, {"0 0 1 1", "no 11 0"}, {"0 0 4 0 0 3", "ok 1"}, {"0 0 0 3 4 0", "ok 1"},
		// One blank and several, between words of all kinds.
		{"0  0 4   0 0      3", "ok 1"}, {"0 0 4 0 0 3  / 9 9 10 9  9 10", "ok 2"}, {"0 0 4 0 0 3 /  9 9 10 9 9 10", "ok 2"}, {"0 0 4 0 0 3   /   9 9 10 9 9 10", "ok 2"}, {"0 0 4 0 0 3/ 9 9 10 9 9 10", "no text"}, {"0 0 4 0 0 3 /9 9 10 9 9 10", "no text"}, {"0 0 4 0 0 3/9 9 10 9 9 10", "no text"}, {"0 0 4 0 0 3 / / 9 9 10 9 9 10", "no text"}, {"0 0 4 0 0 3 //  9 9 10 9 9 10", "no text"}, {"0 0 4 0 0 3 /", "no text"}, {"/ 0 0 4 0 0 3", "no text"}, {"0 0 4 0 0 3 / none", "no text"}, {"none / none", "no text"},
		// Bytes that part no words.
		{"0\t0 4 0 0 3", "no text"}, {"0 0 4 0 0\n3", "no text"}, {"0 0 4 0 0 3\t", "no text"}, {"0 0 4 0 0 3\r", "no text"}, {"\t0 0 4 0 0 3", "no text"}, {"none\n", "no text"}, {"none\x00", "no text"}, {"0 0 4 0 0\u00a03", "no text"}, {"0 0 4 0 0 \xff", "no text"}, {"\t", "no text"}, {"\u3000", "no text"},
		// Numbers that are none, and ones of as many digits as there may be.
		{"0 0 4 0 0 +3", "no text"}, {"0 -0 4 0 0 3", "no text"}, {"00 0 4 0 0 3", "no text"}, {"0 0 04 0 0 3", "no text"}, {"0 0 4 0 0 -", "no text"}, {"0 0 4 0 0 3.0", "no text"}, {"0 0 4 0 0 999999999999999", "no 13 0"}, {"0 0 4 0 0 -999999999999999", "no 13 0"}, {"0 0 4 0 0 1000000000000000", "no text"}, {"0 0 4 0 0 -1000000000000000", "no text"}, {"0 0 4 0 0 18446744073709551619", "no text"},
		// Each code and place. More rings or spots than there may be are no text.
		{long, "no text"}, {"0 0 1 0 0 1 / 9 0 10 0 9 1 / 19 0 20 0 19 1 / 29 0 30 0 29 1 / 39 0 40 0 39 1 / 49 0 50 0 49 1 / 59 0 60 0 59 1", "no text"}, {impl.LayerText(threes(6)), "ok 6"}, {long[:len(long)-4], "no 12 0"}, {bend, "ok 1"}, {bend + " 12 144", "no 12 0"}, {"90 90 91 90 90 91 / " + bend + " 12 144", "no 12 1"},
		{"0 0 4 0 0 3 / 9 9", "no 11 1"}, {"0 0 4 0 0 3 / 9 9 10 9 9 10 / 1 1 2 2", "no 11 2"}, {"0 0 1000000 0 0 1000000", "ok 1"}, {"0 0 1000001 0 0 1000000", "no 13 0"}, {"9 9 10 9 9 10 / 0 0 1 0 0 -1000001", "no 13 1"}, {"0 0 4 0 0 0", "no 14 0"}, {"9 9 10 9 9 10 / 0 0 4 0 4 0", "no 14 1"}, {"0 0 2 2 2 0 0 2", "no 15 0"}, {"9 9 10 9 9 10 / 0 0 2 0 1 0", "no 15 1"}, {"0 0 4 0 0 3 / 0 0 4 0 0 3", "no 3 1"}, {"0 0 4 0 0 3 / 9 9 10 9 9 10 / 4 0 5 0 5 1", "no 3 2"}, {"0 0 4 0 0 3 / 9 9 10 9 9 10 / 90 90 91 91 92 90 / 10 9 11 9 11 10 / 0 0", "no 11 4"}, {"0 0 4 0 0 3 / 9 9 10 9 9 10 / 90 90 91 91 92 90 / 10 9 11 9 11 10", "no 3 3"}, {"0 0 / 0 0 4 0 4 0", "no 11 0"}, {"0 0 4 0 4 0 / 0 0", "no 14 0"},
		{"0 0 9 0 9 9 0 9 / 3 3 6 3 6 6 3 6 / 4 4 5 4 4 5", "ok 3"}, {"0 0 9 0 9 9 0 9 / 0 0 6 3 6 6 3 6", "no 3 1"},
	} {
		for _, s := range ourSessions() {
			for _, to := range []string{"a", "b"} {
				for _, line := range []string{"load " + to + " " + c[0], "  load   " + to + "  " + c[0] + " "} {
					got, answer := impl.SessionDo(s, line)
					if answer != c[1] {
						t.Errorf("%q: %q, wanted %q", line, answer, c[1])
					}
					if !strings.HasPrefix(answer, "ok ") && !sameSession(got, s) {
						t.Errorf("refused, but changed: %q %v", line, got)
					}
					checkLine(t, s, line)
				}
			}
		}
	}
}

func TestLoadsOverElderLayers(t *testing.T) {
	four, two := layer(square(0, 0, 4)), layer(square(1, 1, 2))
	s := impl.Session{}
	for i, c := range []struct {
		line, answer string
		want         impl.Session
	}{
		{"load a 0 0 4 0 4 4 0 4", "ok 1", session(four, nil)}, {"load b 1 1 3 1 3 3 1 3", "ok 1", session(four, two)}, {"load a 1 1 3 1 3 3 1 3", "ok 1", session(two, two)}, {"load a 1 1 3 1", "no 11 0", session(two, two)}, {"load a fly", "no text", session(two, two)}, {"load", "what", session(two, two)},
		{"load b none", "ok 0", session(two, nil)}, {"load b none", "ok 0", session(two, nil)}, {"load a 0 0 9 0 9 9 0 9 / 3 3 6 3 6 6 3 6", "ok 2", session(layer(square(0, 0, 9), square(3, 3, 3)), nil)}, {"load b 0 0 4 0 4 4 0 4", "ok 1", session(layer(square(0, 0, 9), square(3, 3, 3)), four)}, {"load a none", "ok 0", session(nil, four)}, {"load b none", "ok 0", session(nil, nil)},
	} {
		got, answer := checkLine(t, s, c.line)
		if answer != c.answer || !sameSession(got, c.want) {
			t.Error(i, answer, got)
		}
		s = got
		checkAnswer(t, s, "save", savedWanted(c.want))
	}
}

// noNumbers are none, or have too many digits.
func noNumbers() []string {
	return []string{
		"", "-", "+", "+1", "-0", "+0", "--1", "-+1", "1-", "01", "00", "-01", "000000000000001", "x", "1x", "x1", "one", "1.0", "1.", ".1", "1e3", "0x1", "1_0", "1,", ",", "1/1", "/", "a", "\t", "1\t", "\t1", "1\n", "\r", "1\r", "\x00", "1\x00", "\xff", "\u0661", "\uff11", "1\u00a0", "\u22121",
		"1000000000000000", "-1000000000000000", "0000000000000000", "9999999999999999", "9223372036854775807", "9223372036854775808", "18446744073709551616", "18446744073709551617", "-18446744073709551617", "340282366920938463463374607431768211457", strings.Repeat("1", 90),
	}
}

func TestNumbersInLines(t *testing.T) {
	sessions := []impl.Session{session(nil, nil), session(layer(square(0, 0, 4)), layer(square(2, 2, 4)))}
	for _, line := range []string{"side a 1 1", "side b 1 1", "at 1 1", "near 1 1", "window 1 1 1 1", "path 1 1", "path 1 1 1 1", "path 1 1 1 1 1 1"} {
		words := strings.Split(line, " ")
		for i, word := range words {
			if word != "1" {
				continue
			}
			put := func(n string) string {
				changed := slices.Clone(words)
				changed[i] = n
				return strings.Join(changed, " ")
			}
			for _, s := range sessions {
				for _, n := range noNumbers() {
					checkAnswer(t, s, put(n), "what")
				}
				for _, n := range []string{"0", "-1", "7", "10", "-10", "99", "1000000", "-1000000", "1000001", "100000000000000", "-100000000000000", "999999999999999", "-999999999999999"} {
					if _, answer := checkLine(t, s, put(n)); answer == "what" {
						t.Errorf("%q is not heard", put(n))
					}
				}
			}
		}
	}
}

func TestTooFewAndTooManyWords(t *testing.T) {
	for _, s := range ourSessions() {
		for _, line := range []string{
			"load", "load a", "load b", "load a ", "load  b   ", "area", "area a b", "area a 1", "area a a", "area 1", "side", "side a", "side b 1", "side a 1 2 3", "side a 1 2 3 4", "side 1 2", "side 1 2 a", "side a b", "side a a 1 2", "side a 1 2 a",
			"at", "at 1", "at 1 2 3", "at 1 2 3 4", "at a 1 2", "at a", "near", "near 1", "near 1 2 3", "near 1 2 3 4", "near b 1 2", "window", "window 1", "window 1 2", "window 1 2 3", "window 1 2 3 4 5", "window 1 2 3 4 5 6", "window a 1 2 3 4", "path", "path 1", "path 1 2 3", "path 1 2 3 4 5", "path a 1 2", "path" + strings.Repeat(" 1", 25), "path" + strings.Repeat(" 1", 197),
			"map 1", "map a", "map map", "map 1 2", "traps 1", "traps a", "traps 1 2", "relate a", "relate a b", "relate 1 2", "relate equals", "or a", "or a b", "or 1 2", "and 1", "and 1 2", "less a", "less 1 2", "xor b", "xor 1 2", "save a", "save a b", "save none", "save 1 2", "or and", "at near 1 2",
		} {
			checkAnswer(t, s, line, "what")
		}
	}
}

func TestWordsThatAreNone(t *testing.T) {
	s := session(layer(square(0, 0, 4)), layer(square(2, 2, 4)))
	none := []string{"fly", "what", "ok", "no", "none", "a", "b", "L", "TEXT", "0", "1 2", "-", "/", "?", "|", "vertex 1", "edge 1", "face 1", "loops", "free", "met", "quit", "help", "\x00", "\xff", "\t", "\n", "\r", "\u00a0", "\u3000", "\u2003", "load\ta 0 0 4 0 0 3", "area\ta", "at\t1 2", "at 1\t2"}
	for _, line := range ourLines() {
		word, rest, _ := strings.Cut(line, " ")
		for _, other := range []string{strings.ToUpper(word), strings.ToUpper(word[:1]) + word[1:], word[:len(word)-1] + strings.ToUpper(word[len(word)-1:]), word[1:], word[:len(word)-1], word + "s", "x" + word, word + word, word[:1] + " " + word[1:], word + ".", word + ":", word + "\t", "\t" + word, word + "\r", word + "\n", "\n" + word, word + "\v", word + "\f", word + "\x00", "\x00" + word, word + "\u00a0", "\u00a0" + word, word + "\u0085", "\ufeff" + word, word + "\xff", word + "1"} {
			if !slices.Contains(lineWords(), other) {
				none = append(none, strings.TrimSuffix(other+" "+rest, " "))
			}
		}
	}
	for _, line := range none {
		checkAnswer(t, s, line, "what")
	}
	for _, wrong := range []string{"A", "B", "c", "ab", "ba", "aa", "0", "1", "-", "a,", "a\t", "\ta", "a\n", "a\x00", "\u00e1", "\u0430", "none", "L", "a/b"} {
		for _, line := range []string{"load L 0 0 4 0 0 3", "load L none", "load L x", "load L", "area L", "side L 1 1", "side L 1", "side L"} {
			checkAnswer(t, s, strings.Replace(line, "L", wrong, 1), "what")
		}
	}
	// What stands behind a word is looked at byte by byte too.
	for _, b := range []byte{0, '\t', '\n', '\v', '\f', '\r', 0x1f, '!', 0x7f, 0x80, 0xa0, 0xff} {
		for _, line := range []string{"map_", "_map", "area a_", "area_a", "at 1_1", "at 1 1_", "side a 1_1", "window 1 1 2_2", "path 1 1_", "save_", "_"} {
			checkAnswer(t, s, strings.Replace(line, "_", string([]byte{b}), 1), "what")
		}
	}
	for _, line := range []string{"map_", "_map", "area a_", "area_a", "at 1_1", "at 1 1_", "side a 1_1", "window 1 1 2_2", "path 1 1_", "save_"} {
		if _, answer := checkLine(t, s, strings.Replace(line, "_", " ", 1)); answer == "what" {
			t.Error("not heard", line)
		}
	}
}

// filledTo is a line of n bytes: blanks are put in ahead of it, behind it, or between its words.
func filledTo(line string, n int) []string {
	more := strings.Repeat(" ", n-len(line))
	out := []string{line + more, more + line, more[:len(more)/2] + line + more[len(more)/2:]}
	if strings.Contains(line, " ") {
		out = append(out, strings.Replace(line, " ", " "+more, 1))
	}
	return out
}

func TestLongLines(t *testing.T) {
	for _, s := range ourSessions() {
		for _, line := range append(ourLines(), "fly", "map 1", "load c none", "load a x", "load b 0 0", "") {
			want, wantAnswer := lineWanted(s, line)
			for _, n := range []int{399, 400} {
				for _, long := range filledTo(line, n) {
					if got, answer := impl.SessionDo(s, long); len(long) != n || answer != wantAnswer || !sameSession(got, want) {
						t.Errorf("%d %q: %q %v", n, line, answer, got)
					}
				}
			}
			for _, n := range []int{401, 402, 4000, 100000} {
				for _, long := range filledTo(line, n) {
					if got, answer := impl.SessionDo(s, long); len(long) != n || answer != "" || len(got.A) != 0 || len(got.B) != 0 {
						t.Errorf("%d %q: %q %v", n, line, answer, got)
					}
				}
			}
		}
		for _, b := range []string{"x", "1", "\n", "\x00", "\xff", "/"} {
			checkAnswer(t, s, strings.Repeat(b, 400), "what")
			if got, answer := impl.SessionDo(s, strings.Repeat(b, 401)); answer != "" || len(got.A) != 0 || len(got.B) != 0 {
				t.Errorf("%q: %q %v", b, answer, got)
			}
		}
		checkAnswer(t, s, "load a "+strings.Repeat("1", 393), "no text")
		checkAnswer(t, s, "load a"+strings.Repeat(" 1", 197), "no text")
	}
}

// longestLayers have as many rings or spots as there may be, with parts of as many bytes as most may have.
func longestLayers() [][]impl.Ring {
	var six []impl.Ring
	for i := range int64(6) {
		r := ring(-999999+9*i, -999999, -999998+9*i, -999999, -999999+9*i, -999998)
		if i < 2 {
			r.Spots = slices.Insert(r.Spots, 2, spot(-999998+9*i, -999998))
		}
		six = append(six, r)
	}
	corner := movedLayer(layer(square(0, 0, 2), square(10, 0, 2), square(20, 0, 2), square(30, 0, 2), square(40, 0, 2)), spot(-edge, -edge), 1)
	return [][]impl.Ring{six, corner, layer(moved(bow(12), spot(-edge, -edge), 1), moved(bow(8), spot(500-edge, -edge), 1))}
}

// handOver loads what a session saves into another one.
func handOver(t *testing.T, saved string, other impl.Session) impl.Session {
	t.Helper()
	texts := strings.SplitN(strings.TrimPrefix(saved, "a "), " b ", 2)
	for i, to := range []string{"load a ", "load b "} {
		next, answer := impl.SessionDo(other, to+texts[i])
		if !strings.HasPrefix(answer, "ok ") {
			t.Fatalf("%q: %q", to+texts[i], answer)
		}
		other = next
	}
	return other
}

// checkPromise16 loads two right layers, saves them, loads what was saved into other sessions, and asks both.
func checkPromise16(t *testing.T, a, b []impl.Ring, lines []string) {
	t.Helper()
	s, answer := impl.SessionDo(impl.Session{}, "load a "+impl.LayerText(a))
	if answer != fmt.Sprint("ok ", len(a)) || !sameSession(s, session(a, nil)) {
		t.Fatal("load a", a, answer, s)
	}
	s, answer = impl.SessionDo(s, "load b "+impl.LayerText(b))
	if answer != fmt.Sprint("ok ", len(b)) || !sameSession(s, session(a, b)) || !impl.SessionOk(s) {
		t.Fatal("load b", b, answer, s)
	}
	same, saved := impl.SessionDo(s, "save")
	if saved != "a "+impl.LayerText(a)+" b "+impl.LayerText(b) || !sameSession(same, s) {
		t.Fatal("save", a, b, saved, same)
	}
	for _, elder := range []impl.Session{{}, session(b, a), session(threes(6), threes(1))} {
		other := handOver(t, saved, elder)
		if !sameSession(other, s) {
			t.Fatal("loaded into another one", saved, other)
		}
		for _, line := range lines {
			_, answer := impl.SessionDo(s, line)
			if same, again := impl.SessionDo(other, line); answer != again || !sameSession(same, s) {
				t.Fatalf("%q: %q and %q", line, answer, again)
			}
		}
	}
	for _, line := range []string{"load a", "load c none", "load a x", "load b 0 0", "load a 0 0 1 0 0 0", "load b 0 0 2 0 1 0", "fly", "map 1", "", "  ", "near x 1", "save"} {
		if same, _ := impl.SessionDo(s, line); !sameSession(same, s) {
			t.Fatalf("%q: %v", line, same)
		}
	}
}

func TestPromise16(t *testing.T) {
	t.Parallel()
	rights := append(rightLayers(), longestLayers()...)
	for i, l := range rights {
		checkPromise16(t, l, rights[(i*7+3)%len(rights)], []string{"area a", "side b 1 1", "near 3 4"})
	}
	for i, c := range append(ourPairs(), thrownPairs(12)...) {
		var lines []string
		if i%4 == 0 {
			lines = []string{"map", "at 1 1", "relate", "or", "window 0 0 3 3"}
		}
		checkPromise16(t, c.a, c.b, lines)
	}
}

// TestAnswersAreThoseOfTheFunctions holds lines against the functions that the document names for them.
func TestAnswersAreThoseOfTheFunctions(t *testing.T) {
	t.Parallel()
	d := dice(467)
	for _, c := range append(ourPairs(), thrownPairs(8)...) {
		s := session(c.a, c.b)
		segs, _ := impl.Overlaid(c.a, c.b)
		p := d.spot(9)
		at := fmt.Sprint(p.X, " ", p.Y)
		points, edges, faces, pieces, _ := impl.Euler(segs)
		traps, _ := impl.TrapsOf(segs)
		side := map[int64]string{impl.SdIn: "in", impl.SdOn: "on", impl.SdOut: "out"}
		cell := impl.CellAt(segs, impl.PointOf(p))
		x, y, _ := impl.CellSides(c.a, c.b, cell)
		for line, want := range map[string]string{
			"area a": fmt.Sprint("area ", impl.LayerArea2(c.a)), "area b": fmt.Sprint("area ", impl.LayerArea2(c.b)), "side a " + at: side[impl.LayerSide(c.a, impl.PointOf(p))], "side b " + at: side[impl.LayerSide(c.b, impl.PointOf(p))],
			"map": fmt.Sprint("map ", points, " ", edges, " ", faces, " ", pieces), "traps": fmt.Sprint("traps ", len(traps)), "at " + at: fmt.Sprint(map[int64]string{1: "vertex", 2: "edge", 3: "face"}[cell.Kind], " ", cell.Id, " ", side[x], " ", side[y]),
			"save": "a " + impl.LayerText(c.a) + " b " + impl.LayerText(c.b), "path " + at + " 0 0": map[bool]string{true: "free", false: "met"}[impl.Free(segs, []impl.Spot{p, {}})],
		} {
			if same, answer := impl.SessionDo(s, line); answer != want || !sameSession(same, s) {
				t.Errorf("%s: %q: %q, wanted %q", savedWanted(s), line, answer, want)
			}
		}
		for op, line := range map[int64]string{impl.OpOr: "or", impl.OpAnd: "and", impl.OpLess: "less", impl.OpXor: "xor"} {
			loops, _ := impl.Combine(c.a, c.b, op)
			area, told := impl.LoopsArea2(loops)
			want := fmt.Sprint("loops ", len(loops), " area ", impl.RatioText(area))
			if !told {
				want = fmt.Sprint("loops ", len(loops), " area ?")
			}
			if _, answer := impl.SessionDo(s, line); answer != want {
				t.Errorf("%s: %q: %q, wanted %q", savedWanted(s), line, answer, want)
			}
		}
	}
}

// numberText throws a number, often a small one, now and then one at a limit or none.
func (d *dice) numberText(size int64) string {
	switch d.word() % 40 {
	case 0:
		none := noNumbers()
		return none[d.word()%uint64(len(none))]
	case 1:
		return []string{"1000000", "-1000000", "1000001", "999999999999999", "-999999999999999"}[d.word()%5]
	}
	return fmt.Sprint(d.coord(size))
}

// layerText throws the text of a layer, right or not.
func (d *dice) layerText(size int64) string {
	switch d.word() % 8 {
	case 0:
		return "none"
	case 1:
		return textWanted(layer(d.ring(3+int(d.word()%6), size), d.ring(3, size)))
	case 2:
		l := d.layer(1, size)
		return textWanted(append(l, ring(d.coord(size), d.coord(size), d.coord(size), d.coord(size), d.coord(size), d.coord(size))))
	case 3:
		return textWanted(d.nest(size + 2))
	case 4, 5:
		return textWanted(layer(square(-1-int64(d.word()%3), -1-int64(d.word()%3), 2+int64(d.word()%uint64(size)))))
	}
	return textWanted(d.rightLayer(1+int(d.word()%3), size))
}

// line throws one of the document's, of now and then too few words or too many, with thrown blanks and bytes.
func (d *dice) line(size int64) string {
	words := []string{lineWords()[d.word()%uint64(len(lineWords()))]}
	switch d.word() % 9 {
	case 0, 1, 2:
		words[0] = "load"
	case 3, 4:
		words[0] = []string{"side", "at", "near", "window"}[d.word()%4]
	}
	spots := map[string]int{"side": 1, "at": 1, "near": 1, "window": 2, "path": 1 + int(d.word()%14)}[words[0]]
	if slices.Contains([]string{"load", "area", "side"}, words[0]) {
		words = append(words, []string{"a", "b", "a", "b", "a", "b", "a", "b", "c", "A"}[d.word()%10])
	}
	for range 2 * spots {
		words = append(words, d.numberText(size))
	}
	if words[0] == "load" {
		words = append(words, strings.Split(d.layerText(size), " ")...)
	}
	switch d.word() % 16 {
	case 0:
		words = words[:len(words)-1]
	case 1:
		words = append(words, d.numberText(size))
	}
	var out strings.Builder
	for i, word := range words {
		if i > 0 || d.word()%8 == 0 {
			out.WriteString(strings.Repeat(" ", 1+int(d.word()%9/7)))
		}
		out.WriteString(word)
	}
	line := out.String() + strings.Repeat(" ", int(d.word()%8/6))
	if d.word()%24 == 0 && line != "" {
		i := int(d.word() % uint64(len(line)))
		line = line[:i] + []string{"", "\t", "x", " ", "-", "0", "\xff"}[d.word()%7] + line[i+1:]
	}
	return line
}

func TestThrownLines(t *testing.T) {
	t.Parallel()
	d := dice(479)
	seen := map[string]int{}
	for i := range 400 {
		s := impl.Session{}
		for range 16 {
			line := d.line([]int64{3, 4, 6, 9, 1000}[i%5])
			next, answer := checkLine(t, s, line)
			word, rest, _ := strings.Cut(answer, " ")
			seen[word]++
			if word == "no" {
				seen[answer]++
			}
			if word == "near" && strings.Contains(rest, "/") || word == "loops" && strings.ContainsAny(rest, "/?") {
				seen[word+" broken"]++
			}
			if len(line) <= 400 {
				s = next
			}
		}
	}
	for _, kind := range []string{"ok", "no", "no text", "what", "area", "in", "on", "out", "vertex", "edge", "face", "near", "near broken", "none", "window", "free", "met", "map", "traps", "loops", "loops broken", "a"} {
		if seen[kind] < 8 {
			t.Error("too few of a kind", kind, seen)
		}
	}
	if seen["no 11 0"]+seen["no 3 1"]+seen["no 15 0"]+seen["no 15 1"]+seen["no 14 1"] < 20 {
		t.Error("too few layers that are not right", seen)
	}
}

// scriptWanted answers line by line.
func scriptWanted(text string) string {
	if len(text) > 4000 || strings.Count(text, "\n") > 40 || text != "" && !strings.HasSuffix(text, "\n") {
		return "too long\n"
	}
	s, out := impl.Session{}, ""
	for _, line := range strings.SplitAfter(text, "\n") {
		if line == "" {
			continue
		}
		answer := "what"
		if line = strings.TrimSuffix(line, "\n"); len(line) <= 400 {
			s, answer = lineWanted(s, line)
		}
		if answer != "" {
			out += answer + "\n"
		}
	}
	return out
}

func checkScript(t *testing.T, text, want string) {
	t.Helper()
	if got := impl.RunScript(text); got != want {
		t.Errorf("%q: %q, wanted %q", text, got, want)
	}
	if other := scriptWanted(text); other != want {
		t.Errorf("worked out another way %q: %q, wanted %q", text, other, want)
	}
}

func TestScriptsOfOurOwn(t *testing.T) {
	load := "load a 0 0 4 0 4 4 0 4\n"
	for _, c := range [][2]string{
		{"", ""}, {"\n", ""}, {"\n\n\n", ""}, {" \n", ""}, {"   \n \n\n", ""}, {"\nmap\n\nmap\n  \n", "map 0 0 1 0\nmap 0 0 1 0\n"}, {"save\n", "a none b none\n"}, {"fly\n", "what\n"}, {"fly\n\nmap\n", "what\nmap 0 0 1 0\n"},
		// A line is heard by the session that those ahead of it left.
		{"map\n" + load + "map\nload b 2 2 6 2 6 6 2 6\nmap\nload a none\nmap\nload b none\nmap\n", "map 0 0 1 0\nok 1\nmap 4 4 2 1\nok 1\nmap 10 12 4 1\nok 0\nmap 4 4 2 1\nok 0\nmap 0 0 1 0\n"},
		{"near 2 1\n" + load + "near 2 1\nload a 1 1 3 1 3 3 1 3\nnear 2 1\nload b 2 1 9 1 9 2\nnear 5 1\n", "none\nok 1\nnear 1 1\nok 1\nnear 1 0\nok 1\nnear 4 0\n"},
		{load + "traps\nload a 0 0 4 0\ntraps\nload b 1 1 2 1 1 2\ntraps\nwindow 1 1 1 1\nat 1 1\npath 3 3\nload a none\nwindow 1 1 1 1\nat 1 1\npath 0 0 4 4\npath 0 0 4 0\n", "ok 1\ntraps 9\nno 11 0\ntraps 9\nok 1\ntraps 15\nwindow 4 5\nvertex 2 in on\nfree\nok 0\nwindow 0 1\nvertex 0 out on\nmet\nfree\n"},
		{load + "load b none\nload a 0 0 4 0 4 4 0 4 / 1 1 2 1 1 2\nor\nrelate\nload b 1 1 2 1 1 2\nor\nand\nrelate\nsave\n", "ok 1\nok 0\nok 2\nloops 2 area 31\nno 2\nok 1\nloops 1 area 32\nloops 0 area 0\nFF2F112F2 touches intersects\na 0 0 4 0 4 4 0 4 / 1 1 2 1 1 2 b 1 1 2 1 1 2\n"},
		// Bytes that end no line.
		{"map\r\n", "what\n"}, {"map\r", "too long\n"}, {"map\x00\n", "what\n"}, {"map\vmap\n", "what\n"}, {"map\u2028\n", "what\n"}, {"\r\n", "what\n"}, {"\t\n", "what\n"},
		// A last line that is not ended.
		{"map", "too long\n"}, {" ", "too long\n"}, {"map\nmap", "too long\n"}, {"map\n ", "too long\n"}, {load + "save", "too long\n"}, {"fly", "too long\n"}, {"\n\nx", "too long\n"},
	} {
		checkScript(t, c[0], c[1])
	}
}

func TestScriptsAtTheirLimits(t *testing.T) {
	for _, line := range []string{"", " ", "map", "fly", "save"} {
		_, answer := lineWanted(impl.Session{}, line)
		if answer != "" {
			answer += "\n"
		}
		for _, n := range []int{1, 39, 40} {
			checkScript(t, strings.Repeat(line+"\n", n), strings.Repeat(answer, n))
		}
		for _, n := range []int{41, 42, 80, 500} {
			checkScript(t, strings.Repeat(line+"\n", n), "too long\n")
		}
		checkScript(t, strings.Repeat(line+"\n", 39)+"map", "too long\n")
		checkScript(t, strings.Repeat(line+"\n", 40)+"map", "too long\n")
		checkScript(t, strings.Repeat(line+"\n", 40)+" ", "too long\n")
	}
	// Lines of 99, of 399, of MaxLine bytes and of one more, in all MaxLines bytes and one more or less.
	for _, n := range []int{99, 399} {
		for _, line := range filledTo("area a", n) {
			count := 4000 / (n + 1)
			full := strings.Repeat(line+"\n", count)
			checkScript(t, full, strings.Repeat("area 0\n", count))
			checkScript(t, full[1:], scriptWanted(full[1:]))
			if strings.Contains(impl.RunScript(full[1:]), "long") {
				t.Error("one less")
			}
			checkScript(t, full+"\n", "too long\n")
			checkScript(t, " "+full, "too long\n")
			checkScript(t, full+"x", "too long\n")
			checkScript(t, full+full, "too long\n")
		}
	}
	load := "load a 0 0 4 0 4 4 0 4"
	for _, long := range filledTo(load, 400) {
		checkScript(t, long+"\nsave\n", "ok 1\na 0 0 4 0 4 4 0 4 b none\n")
		checkScript(t, long+" \nsave\n", "what\na none b none\n")
		checkScript(t, load+"\n "+strings.Replace(long, load, "load a none           ", 1)+"\nsave\n", "ok 1\nwhat\na 0 0 4 0 4 4 0 4 b none\n")
		checkScript(t, long+"\n"+long+" \narea a\nfly\narea a\n", "ok 1\nwhat\narea 32\nwhat\narea 32\n")
	}
	for _, b := range []string{" ", "x", "\x00"} {
		answer := map[bool]string{true: "", false: "what\n"}[b == " "]
		checkScript(t, strings.Repeat(b, 400)+"\n", answer)
		checkScript(t, strings.Repeat(b, 401)+"\n", "what\n")
		checkScript(t, strings.Repeat(b, 401)+"\nmap\n", "what\nmap 0 0 1 0\n")
		checkScript(t, strings.Repeat(b, 3999)+"\n", "what\n")
		checkScript(t, strings.Repeat(b, 4000), "too long\n")
		checkScript(t, strings.Repeat(b, 4000)+"\n", "too long\n")
		checkScript(t, strings.Repeat(b, 100000)+"\n", "too long\n")
	}
	checkScript(t, strings.Repeat("\n", 4000), "too long\n")
	checkScript(t, strings.Repeat("\n", 4001), "too long\n")
}

// TestScriptsStaySaid puts line behind line: what was said is said again, and more, and what the session has is what SessionDo makes of it.
func TestScriptsStaySaid(t *testing.T) {
	t.Parallel()
	d := dice(487)
	ends := map[string]int{}
	for i := range 60 {
		text, said, last := "", "", impl.Session{}
		for text == "" || len(text) < 4200 && strings.Count(text, "\n") < 42 {
			line := d.line([]int64{3, 5, 9}[i%3])
			switch d.word() % 12 {
			case 0:
				line = strings.Repeat(" ", int(d.word()%3))
			case 1, 2, 3:
				line += strings.Repeat(" ", max(0, 399+int(d.word()%3)-len(line)))
			}
			text += strings.ReplaceAll(line, "\n", "?") + "\n"
			got := impl.RunScript(text)
			if len(text) > 4000 || strings.Count(text, "\n") > 40 {
				if got != "too long\n" {
					t.Fatalf("%q: %q", text, got)
				}
				ends[map[bool]string{true: "bytes", false: "lines"}[len(text) > 4000]]++
				continue
			}
			next, answer := impl.SessionDo(last, strings.ReplaceAll(line, "\n", "?"))
			if len(line) > 400 {
				next, answer = last, "what"
			}
			if answer != "" {
				answer += "\n"
			}
			if got != said+answer {
				t.Fatalf("%q: %q, but before %q and then %q", text, got, said, answer)
			}
			said, last = got, next
		}
		if i%6 == 0 {
			lines := strings.SplitAfter(text, "\n")
			some := strings.Join(lines[:min(12, len(lines)-1)], "")
			checkScript(t, some, scriptWanted(some))
		}
	}
	if ends["bytes"] < 5 || ends["lines"] < 5 {
		t.Error("too few of a kind", ends)
	}
}

// TestGreatestScripts has the greatest overlays, asked by as many lines as there may be.
func TestGreatestScripts(t *testing.T) {
	t.Parallel()
	loads := "load a " + textWanted(strips(5, false)) + "\nload b " + textWanted(strips(5, true)) + "\n"
	got := impl.RunScript(loads + strings.Repeat("relate\nxor\nmap\ntraps\nat 0 0\n", 7))
	want := "ok 5\nok 5\n" + strings.Repeat("212101212 overlaps intersects\nloops 60 area ?\nmap 140 240 102 1\ntraps 381\nvertex 11 on on\n", 7)
	if got != want {
		t.Errorf("%q", got)
	}
}

func TestSessionsLeaveMemoryAlone(t *testing.T) {
	for _, s := range ourSessions() {
		for _, line := range append(ourLines(), "", "fly", "load a x", "load b 0 0") {
			a, sameA := roomyLayer(s.A)
			b, sameB := roomyLayer(s.B)
			want, wantAnswer := impl.SessionDo(s, line)
			for range 2 {
				got, answer := impl.SessionDo(session(a, b), line)
				if answer != wantAnswer || !sameSession(got, want) {
					t.Errorf("another answer: %q", line)
				}
				for _, l := range [][]impl.Ring{got.A, got.B} {
					for i := range l {
						scribble(l[i].Spots)
					}
					scribble(l)
				}
				if !sameA() || !sameB() {
					t.Fatalf("written into: %q", line)
				}
			}
		}
	}
	// Layers and rings that share memory: those of the answer do not.
	shared := square(0, 0, 4)
	both := layer(shared, square(9, 9, 1))
	for _, line := range []string{"", "map", "load b none", "load a x", "what"} {
		got, _ := impl.SessionDo(session(both, both), line)
		scribble(got.A[0].Spots)
		scribble(got.A)
		if want := layer(square(0, 0, 4), square(9, 9, 1)); !sameLayer(both, want) || len(got.B) > 0 && !sameLayer(got.B, want) {
			t.Errorf("shared: %q", line)
		}
	}
}

// TestSessionAreasByBigNumbers asks for areas of thrown layers that are told, and adds up those of either and of both.
func TestSessionAreasByBigNumbers(t *testing.T) {
	t.Parallel()
	told := 0
	for _, c := range thrownPairs(20) {
		s := session(c.a, c.b)
		areas := map[string]*big.Rat{}
		for _, line := range []string{"or", "and", "less", "xor"} {
			_, answer := impl.SessionDo(s, line)
			_, area, _ := strings.Cut(answer, " area ")
			if r, ok := new(big.Rat).SetString(area); ok {
				areas[line] = r
			}
		}
		if len(areas) < 4 {
			continue
		}
		told++
		sum := new(big.Rat).SetInt64(impl.LayerArea2(c.a) + impl.LayerArea2(c.b))
		if ratPlus(areas["or"], areas["and"]).Cmp(sum) != 0 || ratPlus(areas["and"], areas["xor"]).Cmp(areas["or"]) != 0 || ratPlus(areas["less"], areas["and"]).Cmp(new(big.Rat).SetInt64(impl.LayerArea2(c.a))) != 0 {
			t.Error("areas", c, areas)
		}
	}
	if told < 40 {
		t.Error("too few are told", told)
	}
}
