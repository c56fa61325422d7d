package tests

import (
	"math"
	"math/big"
	"strings"
	"testing"

	"loop.example/g00225/impl"
)

// sameWide holds what was answered against n, or against zero and false when n is nil or not told.
func sameWide(t *testing.T, what string, got impl.Wide, ok bool, n *big.Int) {
	t.Helper()
	var want impl.Wide
	told := false
	if n != nil {
		want, told = wideOf(n)
	}
	if got != want || ok != told {
		t.Errorf("%s: %v %v, not %v %v", what, got, ok, want, told)
	}
}

func TestWideOfSmallNumbers(t *testing.T) {
	for _, n := range []int64{0, 1, -1, 2, -2, 255, -255, math.MaxInt32, math.MinInt32, math.MaxInt64, math.MinInt64, math.MinInt64 + 1} {
		if got := bigOf(impl.WideOf(n)); got.Cmp(big.NewInt(n)) != 0 {
			t.Error(n, got)
		}
	}
}

func TestWideSigns(t *testing.T) {
	for _, a := range edgeWides() {
		if got, want := impl.WideSign(a), int64(bigOf(a).Sign()); got != want {
			t.Error(a, got, want)
		}
	}
}

func TestWideOrder(t *testing.T) {
	pairsOf(func(a, b impl.Wide) {
		want := int64(bigOf(a).Cmp(bigOf(b)))
		if impl.WideCmp(a, b) != want || impl.WideCmp(b, a) != -want || impl.WideCmp(a, a) != 0 {
			t.Error(a, b, impl.WideCmp(a, b), want)
		}
	})
}

func TestWideSums(t *testing.T) {
	pairsOf(func(a, b impl.Wide) {
		sum, ok := impl.WideAdd(a, b)
		sameWide(t, "sum", sum, ok, new(big.Int).Add(bigOf(a), bigOf(b)))
		turned, ok2 := impl.WideAdd(b, a)
		if turned != sum || ok2 != ok {
			t.Error("sum turned", a, b)
		}
		if back, ok3 := impl.WideSub(sum, b); ok && (back != a || !ok3) {
			t.Error("taken away again", a, b, back, ok3)
		}
	})
}

func TestWideDifferences(t *testing.T) {
	pairsOf(func(a, b impl.Wide) {
		left, ok := impl.WideSub(a, b)
		sameWide(t, "difference", left, ok, new(big.Int).Sub(bigOf(a), bigOf(b)))
		if back, ok2 := impl.WideAdd(left, b); ok && (back != a || !ok2) {
			t.Error("added again", a, b, back, ok2)
		}
	})
}

func TestWideNegatives(t *testing.T) {
	for _, a := range edgeWides() {
		neg, ok := impl.WideNeg(a)
		sameWide(t, "negative", neg, ok, new(big.Int).Neg(bigOf(a)))
	}
	if neg, ok := impl.WideNeg(least); ok || neg != zero {
		t.Error(neg, ok)
	}
}

func TestWideProducts(t *testing.T) {
	pairsOf(func(a, b impl.Wide) {
		product, ok := impl.WideMul(a, b)
		sameWide(t, "product", product, ok, new(big.Int).Mul(bigOf(a), bigOf(b)))
		turned, ok2 := impl.WideMul(b, a)
		if turned != product || ok2 != ok {
			t.Error("product turned", a, b)
		}
	})
}

func TestWideSumsAtTheEnds(t *testing.T) {
	minus := impl.WideOf(-1)
	for _, c := range []struct {
		op   func(impl.Wide, impl.Wide) (impl.Wide, bool)
		a, b impl.Wide
		want impl.Wide
		ok   bool
	}{
		{impl.WideAdd, most, zero, most, true},
		{impl.WideAdd, most, one, zero, false},
		{impl.WideAdd, most, most, zero, false},
		{impl.WideAdd, least, minus, zero, false},
		{impl.WideAdd, least, least, zero, false},
		{impl.WideAdd, least, most, minus, true},
		{impl.WideSub, least, one, zero, false},
		{impl.WideSub, most, minus, zero, false},
		{impl.WideSub, minus, least, most, true},
		{impl.WideSub, zero, least, zero, false},
		{impl.WideSub, least, least, zero, true},
		{impl.WideSub, least, most, zero, false},
	} {
		if got, ok := c.op(c.a, c.b); got != c.want || ok != c.ok {
			t.Error(c.a, c.b, got, ok)
		}
	}
}

func TestWideProductsAtTheEnds(t *testing.T) {
	high, low := impl.Wide{W2: 1}, impl.Wide{W1: 1 << 63} // 2^128, 2^127
	negHigh, _ := impl.WideNeg(high)
	for _, c := range []struct {
		a, b, want impl.Wide
		ok         bool
	}{
		{high, low, zero, false},
		{negHigh, low, least, true},
		{high, high, zero, false},
		{low, low, impl.Wide{W3: 1 << 62}, true},
		{least, one, least, true},
		{least, impl.WideOf(-1), zero, false},
		{least, zero, zero, true},
		{least, least, zero, false},
		{least, impl.WideOf(2), zero, false},
		{most, impl.WideOf(-1), impl.Wide{W3: 1 << 63, W0: 1}, true},
		{most, impl.WideOf(2), zero, false},
		{impl.Wide{W3: 1 << 62}, impl.WideOf(-2), least, true},
		{impl.Wide{W3: 1 << 62}, impl.WideOf(2), zero, false},
	} {
		if got, ok := impl.WideMul(c.a, c.b); got != c.want || ok != c.ok {
			t.Error(c.a, c.b, got, ok)
		}
	}
}

func checkDivision(t *testing.T, a impl.Wide, b impl.Wide) {
	t.Helper()
	q, r, ok := impl.WideDiv(a, b)
	if b == zero {
		if ok || q != zero || r != zero {
			t.Error("by 0", a, q, r, ok)
		}
		return
	}
	wantQ, wantR := new(big.Int).DivMod(bigOf(a), bigOf(b), new(big.Int))
	if _, told := wideOf(wantQ); !told {
		wantQ, wantR = nil, nil
	}
	sameWide(t, "quotient of "+bigOf(a).String()+" by "+bigOf(b).String(), q, ok, wantQ)
	sameWide(t, "rest of "+bigOf(a).String()+" by "+bigOf(b).String(), r, ok, wantR)
	if !ok {
		return
	}
	// a = q b + r by the program's own numbers too: r is less than b without its sign.
	if impl.WideSign(r) < 0 || bigOf(r).CmpAbs(bigOf(b)) >= 0 {
		t.Error("rest", a, b, r)
	}
	if product, ok := impl.WideMul(q, b); ok {
		if sum, ok := impl.WideAdd(product, r); !ok || sum != a {
			t.Error("quotient times the other one and the rest", a, b, sum, ok)
		}
	}
}

func TestWideDivisions(t *testing.T) {
	pairsOf(func(a, b impl.Wide) { checkDivision(t, a, b) })
	for a := int64(-20); a <= 20; a++ {
		for b := int64(-20); b <= 20; b++ {
			checkDivision(t, impl.WideOf(a), impl.WideOf(b))
		}
	}
}

// Rows of words at their edges are where a first guess of a digit is too great.
func TestWideDivisionsByEdgesOfWords(t *testing.T) {
	edges := []uint64{0, 1, 1<<63 - 1, 1 << 63, 1<<63 + 1, 1<<64 - 1}
	d := dice(7)
	pick := func() uint64 { return edges[d.word()%uint64(len(edges))] }
	for range 20000 {
		a := impl.Wide{W3: pick(), W2: pick(), W1: pick(), W0: pick()}
		b := impl.Wide{W2: pick(), W1: pick(), W0: pick()}
		if d.word()%2 == 0 {
			b = impl.Wide{W1: pick(), W0: pick()}
		}
		checkDivision(t, a, b)
	}
}

func TestWideDivisionsAtTheEnds(t *testing.T) {
	minus, half := impl.WideOf(-1), impl.Wide{W3: 1 << 62}
	negHalf, _ := impl.WideNeg(half)
	lessTwo, _ := impl.WideSub(most, one)
	for _, c := range []struct {
		a, b, q, r impl.Wide
		ok         bool
	}{
		{least, minus, zero, zero, false},
		{least, one, least, zero, true},
		{least, least, one, zero, true},
		{least, most, impl.WideOf(-2), lessTwo, true},
		{most, least, zero, most, true},
		{minus, least, one, most, true},
		{one, least, zero, one, true},
		{least, impl.WideOf(-2), half, zero, true},
		{least, impl.WideOf(2), negHalf, zero, true},
		{minus, most, minus, lessTwo, true},
		{zero, least, zero, zero, true},
		{zero, zero, zero, zero, false},
		{least, zero, zero, zero, false},
	} {
		if q, r, ok := impl.WideDiv(c.a, c.b); q != c.q || r != c.r || ok != c.ok {
			t.Error(c.a, c.b, q, r, ok)
		}
	}
}

func TestWideCommonDivisors(t *testing.T) {
	pairsOf(func(a, b impl.Wide) {
		g, ok := impl.WideGcd(a, b)
		want := new(big.Int).GCD(nil, nil, new(big.Int).Abs(bigOf(a)), new(big.Int).Abs(bigOf(b)))
		sameWide(t, "common divisor", g, ok, want)
		turned, ok2 := impl.WideGcd(b, a)
		if turned != g || ok2 != ok {
			t.Error("common divisor turned", a, b)
		}
		if !ok || g == zero {
			return
		}
		_, r1, _ := impl.WideDiv(a, g)
		_, r2, _ := impl.WideDiv(b, g)
		if r1 != zero || r2 != zero {
			t.Error("does not divide", a, b, g)
		}
	})
}

func TestWideCommonDivisorsAtTheEnds(t *testing.T) {
	half := impl.Wide{W3: 1 << 62}
	for _, c := range []struct {
		a, b, g impl.Wide
		ok      bool
	}{
		{zero, zero, zero, true},
		{least, zero, zero, false},
		{zero, least, zero, false},
		{least, least, zero, false},
		{least, most, one, true},
		{least, half, half, true},
		{least, impl.WideOf(-6), impl.WideOf(2), true},
		{zero, impl.WideOf(-6), impl.WideOf(6), true},
		{most, most, most, true},
		{impl.WideOf(-1), zero, one, true},
	} {
		if g, ok := impl.WideGcd(c.a, c.b); g != c.g || ok != c.ok {
			t.Error(c.a, c.b, g, ok)
		}
	}
}

func TestWideBits(t *testing.T) {
	for _, a := range edgeWides() {
		if got, want := impl.WideBits(a), int64(bigOf(a).BitLen()); got != want {
			t.Error(a, got, want)
		}
	}
	if impl.WideBits(least) != 256 || impl.WideBits(most) != 255 || impl.WideBits(impl.WideOf(-1)) != 1 {
		t.Error(impl.WideBits(least), impl.WideBits(most), impl.WideBits(impl.WideOf(-1)))
	}
}

func TestWideTexts(t *testing.T) {
	texts := edgeWides()
	d := dice(3)
	for range 2000 {
		texts = append(texts, d.wide())
	}
	for _, a := range texts {
		text := impl.WideText(a)
		if text != bigOf(a).String() {
			t.Error(a, text)
		}
		if back, ok := impl.ReadWide(text); !ok || back != a {
			t.Error(text, back, ok)
		}
	}
}

func TestReadWideAtTheEnds(t *testing.T) {
	end := power(255)
	for add := int64(-12); add <= 12; add++ {
		for _, n := range []*big.Int{new(big.Int).Add(end, big.NewInt(add)), new(big.Int).Sub(big.NewInt(add), end)} {
			got, ok := impl.ReadWide(n.String())
			sameWide(t, "read "+n.String(), got, ok, n)
		}
	}
}

func TestReadWideOfWrongTexts(t *testing.T) {
	wrong := []string{
		"", "-", "--1", "-0", "00", "01", "-01", "-00", "+1", "+0", " 1", "1 ", "1 2", "1-", "1-2", "0-", "1_000", "0x1", "1e3", "1.0", "1.",
		"a", "-a", "12a4", "1/", "1/2", "1\n", "1\x00", "\x00", "/", ":", "1:", "1/1", "\u0661", "1\u0661", "\xff", "\u22121",
		strings.Repeat("9", 77), strings.Repeat("9", 78), "1" + strings.Repeat("0", 77), "1" + strings.Repeat("0", 1000), "-" + strings.Repeat("7", 5000),
		strings.Repeat("0", 100), "0" + power(254).String(), power(256).String(), new(big.Int).Add(power(256), big.NewInt(5)).String(),
		new(big.Int).Neg(power(256)).String(), power(512).String(), new(big.Int).Add(power(512), big.NewInt(1)).String(),
	}
	for _, s := range wrong {
		if got, ok := impl.ReadWide(s); ok || got != zero {
			t.Errorf("%q: %v %v", s, got, ok)
		}
	}
}
