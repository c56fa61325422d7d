package tests

import (
	"math/big"
	"testing"

	"loop.example/g00225/impl"
)

func ratOf(a impl.Ratio) *big.Rat {
	return new(big.Rat).SetFrac(bigOf(a.Up), bigOf(a.Down))
}

// ratioFrom is r as a right ratio, and whether both parts are told.
func ratioFrom(r *big.Rat) (impl.Ratio, bool) {
	up, ok := wideOf(r.Num())
	if !ok {
		return impl.Ratio{}, false
	}
	down, ok := wideOf(r.Denom())
	if !ok {
		return impl.Ratio{}, false
	}
	return impl.Ratio{Up: up, Down: down}, true
}

// sameRatio holds what was answered against r, or against zero and false when r is nil or not told.
func sameRatio(t *testing.T, what string, got impl.Ratio, ok bool, r *big.Rat) {
	t.Helper()
	var want impl.Ratio
	told := false
	if r != nil {
		want, told = ratioFrom(r)
	}
	if got != want || ok != told {
		t.Errorf("%s: %v %v, not %v %v", what, got, ok, want, told)
	}
}

func ratio(up int64, down int64) impl.Ratio {
	return impl.Ratio{Up: impl.WideOf(up), Down: impl.WideOf(down)}
}

// rightRatios are right ratios of small parts, of the greatest ones, and thrown ones.
func rightRatios() []impl.Ratio {
	parts := []*big.Int{power(255), power(254), power(127), big.NewInt(0), big.NewInt(1), big.NewInt(2), big.NewInt(3)}
	for _, n := range parts[:2] {
		parts = append(parts, new(big.Int).Sub(n, big.NewInt(1)), new(big.Int).Sub(n, big.NewInt(2)))
	}
	var out []impl.Ratio
	seen := map[impl.Ratio]bool{}
	put := func(up, down *big.Int) {
		if down.Sign() == 0 {
			return
		}
		if r, ok := ratioFrom(new(big.Rat).SetFrac(up, down)); ok && !seen[r] {
			seen[r] = true
			out = append(out, r)
		}
	}
	for _, up := range parts {
		for _, down := range parts {
			put(up, down)
			put(new(big.Int).Neg(up), down)
		}
	}
	d := dice(11)
	for range 40 {
		put(bigOf(d.wide()), bigOf(d.wide()))
	}
	return out
}

func ratioPairs(f func(a impl.Ratio, b impl.Ratio)) {
	all := rightRatios()
	for _, a := range all {
		for _, b := range all {
			f(a, b)
		}
	}
}

// wrongRatios are not right.
func wrongRatios() []impl.Ratio {
	return []impl.Ratio{
		{}, ratio(1, 0), ratio(-1, 0), ratio(0, 2), ratio(0, -1), ratio(1, -1), ratio(1, -2), ratio(-1, -2), ratio(2, 4), ratio(-2, 4), ratio(6, 3), ratio(-7, 7),
		{Up: most, Down: most}, {Up: least, Down: least}, {Up: one, Down: least}, {Up: least}, {Up: most}, {Down: least}, {Down: most},
		{Up: least, Down: impl.WideOf(2)}, {Up: least, Down: impl.WideOf(-1)}, {Up: impl.WideOf(7), Down: most}, {Up: most, Down: least},
	}
}

func TestRightRatios(t *testing.T) {
	for _, a := range rightRatios() {
		if !impl.RatioOk(a) {
			t.Error(a)
		}
	}
	for _, a := range wrongRatios() {
		if impl.RatioOk(a) {
			t.Error(a)
		}
	}
	pairsOf(func(up, down impl.Wide) {
		want := bigOf(down).Sign() > 0 && new(big.Int).GCD(nil, nil, new(big.Int).Abs(bigOf(up)), bigOf(down)).Cmp(big.NewInt(1)) == 0
		if impl.RatioOk(impl.Ratio{Up: up, Down: down}) != want {
			t.Error(up, down, want)
		}
	})
}

func TestRatiosOfNumbers(t *testing.T) {
	pairsOf(func(up, down impl.Wide) {
		got, ok := impl.RatioOf(up, down)
		var want *big.Rat
		if down != zero {
			want = new(big.Rat).SetFrac(bigOf(up), bigOf(down))
		}
		sameRatio(t, "ratio", got, ok, want)
		if ok && !impl.RatioOk(got) {
			t.Error("not right", up, down, got)
		}
	})
}

func TestRatiosOfTheLeastNumber(t *testing.T) {
	half, quarter := impl.Wide{W3: 1 << 62}, impl.Wide{W3: 1 << 61}
	for _, c := range []struct {
		up, down impl.Wide
		want     impl.Ratio
		ok       bool
	}{
		{least, least, ratio(1, 1), true},
		{least, impl.WideOf(-1), impl.Ratio{}, false},
		{least, one, impl.Ratio{Up: least, Down: one}, true},
		{one, least, impl.Ratio{}, false},
		{impl.WideOf(-1), least, impl.Ratio{}, false},
		{impl.WideOf(2), least, impl.Ratio{Up: impl.WideOf(-1), Down: half}, true},
		{impl.WideOf(-12), least, impl.Ratio{Up: impl.WideOf(3), Down: quarter}, true},
		{least, impl.WideOf(-2), impl.Ratio{Up: half, Down: one}, true},
		{least, impl.WideOf(3), impl.Ratio{Up: least, Down: impl.WideOf(3)}, true},
		{least, impl.WideOf(-3), impl.Ratio{}, false},
		{least, most, impl.Ratio{Up: least, Down: most}, true},
		{most, least, impl.Ratio{}, false},
		{zero, least, ratio(0, 1), true},
		{zero, zero, impl.Ratio{}, false},
		{least, zero, impl.Ratio{}, false},
	} {
		if got, ok := impl.RatioOf(c.up, c.down); got != c.want || ok != c.ok {
			t.Error(c.up, c.down, got, ok)
		}
	}
}

func TestRatioSums(t *testing.T) {
	t.Parallel()
	ratioPairs(func(a, b impl.Ratio) {
		sum, ok := impl.RatioAdd(a, b)
		sameRatio(t, "sum", sum, ok, new(big.Rat).Add(ratOf(a), ratOf(b)))
		turned, ok2 := impl.RatioAdd(b, a)
		if turned != sum || ok2 != ok {
			t.Error("sum turned", a, b)
		}
		neg := impl.Ratio{Down: b.Down}
		negUp, told := impl.WideNeg(b.Up)
		neg.Up = negUp
		if !ok || !told {
			return
		}
		if back, ok3 := impl.RatioAdd(sum, neg); !ok3 || back != a {
			t.Error("sum undone", a, b, back, ok3)
		}
	})
}

func TestRatioProducts(t *testing.T) {
	t.Parallel()
	ratioPairs(func(a, b impl.Ratio) {
		product, ok := impl.RatioMul(a, b)
		sameRatio(t, "product", product, ok, new(big.Rat).Mul(ratOf(a), ratOf(b)))
		turned, ok2 := impl.RatioMul(b, a)
		if turned != product || ok2 != ok {
			t.Error("product turned", a, b)
		}
		if !ok || b.Up == zero {
			return
		}
		if back, ok3 := impl.RatioDiv(product, b); !ok3 || back != a {
			t.Error("product undone", a, b, back, ok3)
		}
	})
}

func TestRatioQuotients(t *testing.T) {
	ratioPairs(func(a, b impl.Ratio) {
		quotient, ok := impl.RatioDiv(a, b)
		var want *big.Rat
		if b.Up != zero {
			want = new(big.Rat).Quo(ratOf(a), ratOf(b))
		}
		sameRatio(t, "quotient", quotient, ok, want)
		if !ok {
			return
		}
		if back, ok2 := impl.RatioMul(quotient, b); !ok2 || back != a {
			t.Error("quotient undone", a, b, back, ok2)
		}
	})
}

// What stands between is greater than what is told; what comes out is just told, or just not.
func TestRatiosAtTheEnds(t *testing.T) {
	half, quarter := impl.Wide{W3: 1 << 62}, impl.Wide{W3: 1 << 61}
	whole := func(n impl.Wide) impl.Ratio { return impl.Ratio{Up: n, Down: one} }
	part := func(n impl.Wide) impl.Ratio { return impl.Ratio{Up: one, Down: n} }
	none := impl.Ratio{}
	for _, c := range []struct {
		op         func(impl.Ratio, impl.Ratio) (impl.Ratio, bool)
		a, b, want impl.Ratio
		ok         bool
	}{
		{impl.RatioAdd, part(half), part(half), part(quarter), true},
		{impl.RatioAdd, part(most), part(most), impl.Ratio{Up: impl.WideOf(2), Down: most}, true},
		{impl.RatioAdd, part(half), ratio(1, 3), none, false},
		{impl.RatioAdd, whole(most), ratio(1, 1), none, false},
		{impl.RatioAdd, whole(most), ratio(0, 1), whole(most), true},
		{impl.RatioAdd, whole(least), whole(most), ratio(-1, 1), true},
		{impl.RatioAdd, whole(least), ratio(-1, 1), none, false},
		{impl.RatioAdd, whole(least), whole(least), none, false},
		{impl.RatioAdd, impl.Ratio{Up: least, Down: most}, impl.Ratio{Up: least, Down: most}, none, false},
		{impl.RatioMul, impl.Ratio{Up: least, Down: most}, impl.Ratio{Up: most, Down: half}, ratio(-2, 1), true},
		{impl.RatioMul, whole(least), whole(least), none, false},
		{impl.RatioMul, whole(least), ratio(-1, 1), none, false},
		{impl.RatioMul, whole(least), ratio(-1, 2), whole(half), true},
		{impl.RatioMul, part(most), part(most), none, false},
		{impl.RatioMul, part(most), whole(most), ratio(1, 1), true},
		{impl.RatioMul, part(half), ratio(1, 2), none, false},
		{impl.RatioMul, part(quarter), ratio(1, 2), part(half), true},
		{impl.RatioMul, whole(least), ratio(0, 1), ratio(0, 1), true},
		{impl.RatioDiv, whole(least), whole(least), ratio(1, 1), true},
		{impl.RatioDiv, ratio(1, 1), whole(least), none, false},
		{impl.RatioDiv, ratio(2, 1), whole(least), impl.Ratio{Up: impl.WideOf(-1), Down: half}, true},
		{impl.RatioDiv, ratio(1, 1), whole(most), part(most), true},
		{impl.RatioDiv, part(most), part(most), ratio(1, 1), true},
		{impl.RatioDiv, ratio(1, 1), ratio(0, 1), none, false},
		{impl.RatioDiv, ratio(0, 1), ratio(0, 1), none, false},
		{impl.RatioDiv, ratio(0, 1), whole(least), ratio(0, 1), true},
	} {
		if got, ok := c.op(c.a, c.b); got != c.want || ok != c.ok {
			t.Error(c.a, c.b, got, ok)
		}
	}
}

func TestRatioOrder(t *testing.T) {
	ratioPairs(func(a, b impl.Ratio) {
		want := int64(ratOf(a).Cmp(ratOf(b)))
		if got, ok := impl.RatioCmp(a, b); got != want || !ok {
			t.Error(a, b, got, ok, want)
		}
	})
}

func TestRatioOrderOfTheGreatestParts(t *testing.T) {
	less := func(n impl.Wide, by int64) impl.Wide {
		m, _ := impl.WideSub(n, impl.WideOf(by))
		return m
	}
	rising := []impl.Ratio{
		{Up: least, Down: one},
		{Up: less(least, -1), Down: one},
		{Up: least, Down: less(most, 2)},
		{Up: least, Down: most},
		{Up: less(zero, 1), Down: one},
		{Up: less(least, -2), Down: most},
		{Up: less(zero, 1), Down: most},
		{Up: zero, Down: one},
		{Up: one, Down: most},
		{Up: one, Down: less(most, 1)},
		{Up: less(most, 2), Down: less(most, 1)},
		{Up: less(most, 1), Down: most},
		{Up: one, Down: one},
		{Up: most, Down: less(most, 1)},
		{Up: less(most, 1), Down: less(most, 2)},
		{Up: most, Down: one},
	}
	for i, a := range rising {
		for j, b := range rising {
			want := int64(0)
			if i < j {
				want = -1
			} else if i > j {
				want = 1
			}
			if got, ok := impl.RatioCmp(a, b); got != want || !ok {
				t.Error(i, j, got, ok)
			}
		}
	}
}

func TestRatioFloors(t *testing.T) {
	all := rightRatios()
	for up := int64(-20); up <= 20; up++ {
		for down := int64(1); down <= 7; down++ {
			if r, ok := impl.RatioOf(impl.WideOf(up), impl.WideOf(down)); ok {
				all = append(all, r)
			}
		}
	}
	for _, a := range all {
		got, ok := impl.RatioFloor(a)
		// Euclid's quotient by a number above 0 is the floor.
		sameWide(t, "floor", got, ok, new(big.Int).Div(bigOf(a.Up), bigOf(a.Down)))
		if c, _ := impl.RatioCmp(impl.Ratio{Up: got, Down: one}, a); c > 0 {
			t.Error("floor above", a, got)
		}
		if next, told := impl.WideAdd(got, one); told {
			if c, _ := impl.RatioCmp(impl.Ratio{Up: next, Down: one}, a); c <= 0 {
				t.Error("not the greatest", a, got)
			}
		}
	}
}

func TestRatioTexts(t *testing.T) {
	for _, a := range rightRatios() {
		text := impl.RatioText(a)
		if text != ratOf(a).RatString() {
			t.Error(a, text)
		}
		if back, ok := impl.ReadRatio(text); !ok || back != a {
			t.Error(text, back, ok)
		}
	}
}

func TestRatioTextsOfOurOwn(t *testing.T) {
	for text, want := range map[string]impl.Ratio{
		"0": ratio(0, 1), "7": ratio(7, 1), "-7": ratio(-7, 1), "1/2": ratio(1, 2), "-3/2": ratio(-3, 2), "10/21": ratio(10, 21),
	} {
		if got, ok := impl.ReadRatio(text); !ok || got != want || impl.RatioText(want) != text {
			t.Error(text, got, ok, impl.RatioText(want))
		}
	}
}

func TestReadRatioOfWrongTexts(t *testing.T) {
	end := power(255).String()
	for _, s := range []string{
		"", "/", "1/", "/2", "-/2", "-", "1/1", "0/1", "-5/1", "0/2", "2/4", "-2/4", "6/3", "1/-2", "-1/-2", "1/0", "0/0", "3/0", "1/-0", "-0", "-0/2",
		"01/2", "1/02", "+1/2", "1/+2", "1 /2", "1/ 2", " 1/2", "1/2 ", "1//2", "1/2/3", "1/2/", "/1/2", "1.5", "a/2", "1/b", "1/2a", "1\\2",
		end, "-" + end + "1", "1/" + end, end + "/3", "-" + end + "/2", "-" + end + "/1", "1/" + power(256).String(),
	} {
		if got, ok := impl.ReadRatio(s); ok || got != (impl.Ratio{}) {
			t.Errorf("%q: %v %v", s, got, ok)
		}
	}
	least3 := impl.Ratio{Up: least, Down: impl.WideOf(3)}
	if got, ok := impl.ReadRatio("-" + end + "/3"); !ok || got != least3 {
		t.Error(got, ok)
	}
}

func TestWrongRatiosAreRefused(t *testing.T) {
	ops := []func(impl.Ratio, impl.Ratio) (impl.Ratio, bool){impl.RatioAdd, impl.RatioMul, impl.RatioDiv}
	for _, wrong := range wrongRatios() {
		for _, other := range append(wrongRatios(), ratio(0, 1), ratio(1, 1), ratio(-3, 2)) {
			for i, op := range ops {
				if got, ok := op(wrong, other); ok || got != (impl.Ratio{}) {
					t.Error(i, wrong, other, got, ok)
				}
				if got, ok := op(other, wrong); ok || got != (impl.Ratio{}) {
					t.Error(i, other, wrong, got, ok)
				}
			}
			if got, ok := impl.RatioCmp(wrong, other); ok || got != 0 {
				t.Error(wrong, other, got, ok)
			}
			if got, ok := impl.RatioCmp(other, wrong); ok || got != 0 {
				t.Error(other, wrong, got, ok)
			}
		}
		if got, ok := impl.RatioFloor(wrong); ok || got != zero {
			t.Error(wrong, got, ok)
		}
		if text := impl.RatioText(wrong); text != "" {
			t.Error(wrong, text)
		}
	}
}
