package tests

import (
	"fmt"
	"go/ast"
	"go/parser"
	"go/token"
	"maps"
	"math"
	"path/filepath"
	"reflect"
	"slices"
	"strings"
	"sync"
	"testing"

	"loop.example/g00225/impl"
)

// askedAll are the functions that the document's chapters 1 to 16 list.
func askedAll() map[string]any {
	return map[string]any{
		"WideOf": impl.WideOf, "WideSign": impl.WideSign, "WideCmp": impl.WideCmp, "WideAdd": impl.WideAdd, "WideSub": impl.WideSub, "WideNeg": impl.WideNeg, "WideMul": impl.WideMul, "WideDiv": impl.WideDiv, "WideGcd": impl.WideGcd, "WideBits": impl.WideBits, "WideText": impl.WideText, "ReadWide": impl.ReadWide,
		"RatioOk": impl.RatioOk, "RatioOf": impl.RatioOf, "RatioAdd": impl.RatioAdd, "RatioMul": impl.RatioMul, "RatioDiv": impl.RatioDiv, "RatioCmp": impl.RatioCmp, "RatioFloor": impl.RatioFloor, "RatioText": impl.RatioText, "ReadRatio": impl.ReadRatio,
		"PointOk": impl.PointOk, "PointOf": impl.PointOf, "PointMake": impl.PointMake, "PointCmp": impl.PointCmp, "Orient": impl.Orient, "Between": impl.Between, "Dist2": impl.Dist2, "Middle": impl.Middle, "PointText": impl.PointText, "ReadPoint": impl.ReadPoint,
		"SpotOk": impl.SpotOk, "SegOk": impl.SegOk, "SegOf": impl.SegOf, "SideOf": impl.SideOf, "OnSeg": impl.OnSeg, "Meet": impl.Meet, "Near2": impl.Near2, "OverAt": impl.OverAt, "MeetsBox": impl.MeetsBox,
		"RingFault": impl.RingFault, "RingArea2": impl.RingArea2, "RingTurned": impl.RingTurned, "RingForm": impl.RingForm, "RingSide": impl.RingSide, "RingSegs": impl.RingSegs, "RingsMeet": impl.RingsMeet, "RingIn": impl.RingIn,
		"LayerFault": impl.LayerFault, "LayerSide": impl.LayerSide, "DepthOf": impl.DepthOf, "LayerArea2": impl.LayerArea2, "LayerSegs": impl.LayerSegs, "LayerText": impl.LayerText, "ReadLayer": impl.ReadLayer,
		"SegsFault": impl.SegsFault, "EventsOk": impl.EventsOk, "EventPut": impl.EventPut, "EventTake": impl.EventTake, "StatusAt": impl.StatusAt,
		"HitsOf": impl.HitsOf, "HitAt": impl.HitAt, "CrossPairs": impl.CrossPairs, "Quiet": impl.Quiet,
		"PlanOf": impl.PlanOf, "Around": impl.Around, "EdgesOn": impl.EdgesOn, "DegreeOf": impl.DegreeOf,
		"DcelOf": impl.DcelOf, "CycleOf": impl.CycleOf, "CycleArea2": impl.CycleArea2, "FaceOf": impl.FaceOf, "PiecesOf": impl.PiecesOf, "Euler": impl.Euler,
		"CellAt": impl.CellAt, "Overlaid": impl.Overlaid, "LabelsOf": impl.LabelsOf, "CellSides": impl.CellSides, "Chosen": impl.Chosen, "Combine": impl.Combine, "LoopsOk": impl.LoopsOk, "LoopsSide": impl.LoopsSide, "LoopsArea2": impl.LoopsArea2,
		"TrapsOf": impl.TrapsOf, "TrapAt": impl.TrapAt, "FaceOfTrap": impl.FaceOfTrap, "LocateBy": impl.LocateBy,
		"QuadOk": impl.QuadOk, "QuadNew": impl.QuadNew, "QuadPut": impl.QuadPut, "QuadCut": impl.QuadCut, "QuadWindow": impl.QuadWindow, "QuadNearest": impl.QuadNearest, "QuadCount": impl.QuadCount,
		"Relate": impl.Relate, "MaskOk": impl.MaskOk, "Matches": impl.Matches, "Named": impl.Named, "Transposed": impl.Transposed,
		"NearestSeg": impl.NearestSeg, "WindowSegs": impl.WindowSegs, "SameFace": impl.SameFace, "Free": impl.Free,
		"SessionOk": impl.SessionOk, "SessionDo": impl.SessionDo, "RunScript": impl.RunScript,
	}
}

// TestAskedAll holds that list against the program's text.
func TestAskedAll(t *testing.T) {
	files, err := filepath.Glob("../impl/l*.go")
	if err != nil || len(files) != 16 {
		t.Fatal(files, err)
	}
	var names []string
	for _, file := range files {
		text, err := parser.ParseFile(token.NewFileSet(), file, nil, 0)
		if err != nil {
			t.Fatal(err)
		}
		for _, d := range text.Decls {
			if f, ok := d.(*ast.FuncDecl); ok && f.Recv == nil && f.Name.IsExported() {
				names = append(names, f.Name.Name)
			}
		}
	}
	slices.Sort(names)
	if listed := slices.Sorted(maps.Keys(askedAll())); !slices.Equal(names, listed) {
		t.Error(names, listed)
	}
}

// junkOf is something of a type that is seen wherever it is written, or no longer there.
func junkOf(of reflect.Type) reflect.Value {
	v := reflect.New(of).Elem()
	switch of.Kind() {
	case reflect.Slice:
		v.Set(reflect.Append(v, junkOf(of.Elem())))
	case reflect.Struct:
		for i := range v.NumField() {
			v.Field(i).Set(junkOf(of.Field(i).Type))
		}
	case reflect.Int64:
		v.SetInt(77)
	case reflect.Uint64:
		v.SetUint(77)
	case reflect.Bool:
		v.SetBool(true)
	case reflect.String:
		v.SetString("junk")
	}
	return v
}

// copied has lists of its own, with as much room behind each; without room an empty list is nil.
func copied(v reflect.Value, room int) reflect.Value {
	out := reflect.New(v.Type()).Elem()
	switch v.Kind() {
	case reflect.Slice:
		if v.Len()+room == 0 {
			return out
		}
		out.Set(reflect.MakeSlice(v.Type(), v.Len()+room, v.Len()+room))
		for i := range out.Len() {
			if i < v.Len() {
				out.Index(i).Set(copied(v.Index(i), room))
			} else {
				out.Index(i).Set(junkOf(v.Type().Elem()))
			}
		}
		out.SetLen(v.Len())
	case reflect.Struct:
		for i := range v.NumField() {
			out.Field(i).Set(copied(v.Field(i), room))
		}
	default:
		out.Set(v)
	}
	return out
}

func copiedAll(list []reflect.Value, room int) []reflect.Value {
	var out []reflect.Value
	for _, v := range list {
		out = append(out, copied(v, room))
	}
	return out
}

// told writes a value down, with what is in the room behind its lists if that is asked for.
func told(out *strings.Builder, v reflect.Value, whole bool) {
	switch v.Kind() {
	case reflect.Slice:
		if whole {
			v = v.Slice(0, v.Cap())
		}
		out.WriteString("[")
		for i := range v.Len() {
			told(out, v.Index(i), whole)
		}
		out.WriteString("]")
	case reflect.Struct:
		out.WriteString("{")
		for i := range v.NumField() {
			told(out, v.Field(i), whole)
		}
		out.WriteString("}")
	default:
		fmt.Fprintf(out, "%q ", fmt.Sprint(v.Interface()))
	}
}

func toldAll(list []reflect.Value, whole bool) string {
	var out strings.Builder
	for _, v := range list {
		told(&out, v, whole)
	}
	return out.String()
}

// stretches are from where to where lists lie in memory, with the room behind them.
type stretch struct{ from, to uintptr }

func stretchesOf(v reflect.Value) []stretch {
	var out []stretch
	switch v.Kind() {
	case reflect.Slice:
		if v.Cap() > 0 {
			out = append(out, stretch{v.Pointer(), v.Pointer() + uintptr(v.Cap())*v.Type().Elem().Size()})
		}
		for i := range v.Len() {
			out = append(out, stretchesOf(v.Index(i))...)
		}
	case reflect.Struct:
		for i := range v.NumField() {
			out = append(out, stretchesOf(v.Field(i))...)
		}
	}
	return out
}

// share tells whether two lists, of these values, lie over one another.
func share(list ...reflect.Value) bool {
	var all []stretch
	for _, v := range list {
		all = append(all, stretchesOf(v)...)
	}
	slices.SortFunc(all, func(a, b stretch) int {
		if a.from < b.from {
			return -1
		}
		return 1
	})
	for i := 1; i < len(all); i++ {
		if all[i].from < all[i-1].to {
			return true
		}
	}
	return false
}

// spoil writes over all lists of an answer, and over the room behind them.
func spoil(v reflect.Value) {
	switch v.Kind() {
	case reflect.Slice:
		v = v.Slice(0, v.Cap())
		for i := range v.Len() {
			spoil(v.Index(i))
			v.Index(i).Set(junkOf(v.Type().Elem()))
		}
	case reflect.Struct:
		for i := range v.NumField() {
			spoil(v.Field(i))
		}
	}
}

// samplesAll are arguments of all types, right ones and wrong ones.
func samplesAll(t *testing.T) map[reflect.Type][]reflect.Value {
	d := dice(461)
	tree := filled(t, 1, 3, seg(-9, -9, -5, -5), seg(-1, 5, 1, 5), seg(0, 0, 4, 2), seg(0, 0, 0, 9))
	wrongTree := filled(t, 2, 3, seg(0, 0, 1, 1))
	wrongTree.Blocks[0].Ids = nil
	nest := layer(square(0, 0, 20), square(2, 2, 16), square(6, 6, 8))
	out := map[reflect.Type][]reflect.Value{}
	for _, v := range []any{
		int64(-1), int64(0), int64(1), int64(2), int64(3), int64(4), int64(7), int64(40), int64(1000), int64(math.MaxInt64), int64(math.MinInt64),
		"", "0", "-5", "12345678901234567890123", "1/2", "-7/3", "2/4", "3,4", "1,2/3", "none", "0 0 9 0 9 9 0 9 / 1 1 1 5 5 5 5 1", "1 2", "1 2 3", "2FF1FF212", ownMatrix, "FF2F01212", "212101212", "T*F**F***", "*********", "t********", "equals", "disjoint", "touches", "within", "contains", "overlaps", "intersects", "meets",
		"load a none", "load b 1 1 5 1 5 5 1 5", "load a 0 0 9 0 9 9 0 9 / 1 1 1 5 5 5 5 1", "load a 0 0 2 2 2 0 0 2", "load b x", "area a", "side b 1 1", "at 1 1", "near 1 1", "window 0 0 4 4", "path 1 1 3 1", "map", "traps", "relate", "xor", "save", "fly", strings.Repeat(" ", 401), "map\n", "load a 0 0 4 0 4 4 0 4\nnear 1 1\nload b 1 1 5 1 5 5 1 5\nmap\nor\nrelate\nsave\n", strings.Repeat("\n", 41),
		zero, one, impl.WideOf(-1), impl.WideOf(30), impl.WideOf(math.MinInt64), most, least, impl.Wide{W1: 5}, impl.Wide{W2: 1 << 40, W0: 7},
		impl.Ratio{}, ratio(0, 1), ratio(1, 2), ratio(-7, 3), ratio(2, 4), ratio(5, 1), impl.Ratio{Up: most, Down: one}, impl.Ratio{Up: one, Down: most},
		impl.Point{}, point(0, 0, 1), point(1, 1, 2), point(3, 3, 1), point(-7, 5, 3), point(2, 2, 2), point(4, 1, 1),
		spot(0, 0), spot(1, 1), spot(4, 2), spot(-9, -9), spot(9, 9), spot(edge, -edge), spot(edge+1, 0), spot(math.MinInt64, math.MaxInt64),
		seg(0, 0, 4, 2), seg(0, 2, 4, 0), seg(0, 0, 0, 9), seg(1, 1, 3, 3), seg(2, 2, 5, 5), seg(-edge, -edge, edge, edge), seg(1, 0, 0, 0), impl.Seg{},
		square(0, 0, 4), square(1, 1, 2), turnedWanted(square(2, 2, 5)), ring(0, 0, 4, 0, 0, 4), bow(12), bow(13), ring(0, 0, 2, 2, 2, 0, 0, 2), impl.Ring{},
		layer(square(0, 0, 4)), layer(square(1, 1, 2)), layer(square(2, 2, 5), square(3, 3, 1)), nest, layer(ring(3, 0, 9, 0, 9, 9)), threes(6), []impl.Ring(nil), threes(7), layer(square(0, 0, 2), square(2, 2, 2)), make([]impl.Ring, 2),
		[]impl.Seg(nil), []impl.Seg{seg(0, 0, 4, 0)}, segsWanted(square(0, 0, 4)), fence(2), squares(3, 2), star(0, 0, 1), onLine(seg(0, 0, 1, 0), 0, 3, 1, 2, 2, 5), d.segs(7, 3), repeated(seg(0, 0, 4, 4), 3), make([]impl.Seg, 2), repeated(seg(0, 0, 1, 1), 41),
		[]impl.Event(nil), []impl.Event{event(point(0, 0, 1), 3, 9), event(point(1, 1, 2), 1), event(point(3, 3, 1), 7)}, eventRow(200), eventRow(201), []impl.Event{event(point(1, 1, 1), 3), event(point(1, 1, 2), 3)},
		[]impl.Loop(nil), []impl.Loop{loop(0, 0, 9, 0, 9, 9), loop(1, 1, 2, 1, 2, 2)}, []impl.Loop{wave(60)}, []impl.Loop{wave(61)}, []impl.Loop{{}},
		[]int64(nil), []int64{0}, []int64{3, 1, 0, 2}, []int64{0, 1, 2, 3}, []int64{0, 0}, ordersOf(12, 0, &d)[2],
		way(0, 9), way(1, 1, 3, 1, 3, 1), way(-1, 1, 9, 1), slices.Repeat(way(1, 1), 12), slices.Repeat(way(1, 1), 13), []impl.Spot(nil),
		impl.Cell{}, vertex(0), edgeCell(1), faceCell(0), faceCell(1), faceCell(99),
		impl.Session{}, session(layer(square(0, 0, 4)), nil), session(nest, layer(square(1, 1, 2))), session(threes(6), nest), session(threes(7), nil), session(nil, make([]impl.Ring, 2)),
		impl.Quad{}, filled(t, 3, 2), tree, filled(t, 2, 8, d.segs(9, 500)...), wrongTree,
	} {
		of := reflect.TypeOf(v)
		out[of] = append(out[of], reflect.ValueOf(v))
	}
	return out
}

// asking is a call, and what was answered the first time.
type asking struct {
	name   string
	call   reflect.Value
	args   []reflect.Value
	answer string
}

// askingsOf are all calls of a function with such arguments, or thrown ones where there are too many.
func askingsOf(name string, samples map[reflect.Type][]reflect.Value, d *dice) []asking {
	const enough = 900
	call := reflect.ValueOf(askedAll()[name])
	all := 1
	for i := range call.Type().NumIn() {
		all *= len(samples[call.Type().In(i)])
	}
	var out []asking
	for n := range uint64(min(all, enough)) {
		if all > enough {
			n = d.word()
		}
		next := asking{name: name, call: call}
		for i := range call.Type().NumIn() {
			pool := samples[call.Type().In(i)]
			next.args = append(next.args, pool[n%uint64(len(pool))])
			n /= uint64(len(pool))
		}
		out = append(out, next)
	}
	return out
}

// askFirst calls with room behind all lists of the arguments, and looks at the memory of all that is there then.
func (a *asking) askFirst(t *testing.T) {
	t.Helper()
	args := copiedAll(a.args, 3)
	was := toldAll(args, true)
	got := a.call.Call(args)
	a.answer = toldAll(got, false)
	if toldAll(args, true) != was {
		t.Fatal("written into an argument", a.name, was)
	}
	if share(slices.Concat(args, got)...) {
		t.Fatal("shared memory", a.name, was, a.answer)
	}
	for _, v := range got {
		spoil(v)
	}
	if toldAll(args, true) != was {
		t.Fatal("an argument hangs on the answer", a.name, was)
	}
	if again := toldAll(a.call.Call(args), false); again != a.answer {
		t.Fatal("another answer", a.name, was, a.answer, again)
	}
}

// TestPromise17 asks all functions, asks them again the other way round, and at last all at once out of the same memory.
func TestPromise17(t *testing.T) {
	t.Parallel()
	samples := samplesAll(t)
	d := dice(463)
	var all []asking
	for _, name := range slices.Sorted(maps.Keys(askedAll())) {
		answers := map[string]int{}
		for _, a := range askingsOf(name, samples, &d) {
			a.askFirst(t)
			answers[a.answer]++
			a.args = copiedAll(a.args, 0)
			all = append(all, a)
		}
		if len(answers) < 2 {
			t.Error("always the same answer", name, answers)
		}
	}
	for _, a := range slices.Backward(all) {
		if again := toldAll(a.call.Call(a.args), false); again != a.answer {
			t.Fatal("another answer", a.name, toldAll(a.args, false), a.answer, again)
		}
	}
	var askers sync.WaitGroup
	for i := range 4 {
		askers.Go(func() {
			for k := range all {
				if a := all[(k*(2*i+1)+i*7)%len(all)]; k%3 == 0 && toldAll(a.call.Call(a.args), false) != a.answer {
					t.Error("another answer among others", a.name, toldAll(a.args, false))
				}
			}
		})
	}
	askers.Wait()
}
