package tests

import (
	"math/big"

	"loop.example/g00225/impl"
)

var (
	most  = impl.Wide{W3: 1<<63 - 1, W2: 1<<64 - 1, W1: 1<<64 - 1, W0: 1<<64 - 1}
	least = impl.Wide{W3: 1 << 63}
	one   = impl.WideOf(1)
	zero  = impl.Wide{}
)

// power is 2^n.
func power(n uint) *big.Int {
	return new(big.Int).Lsh(big.NewInt(1), n)
}

// bigOf reads the words itself, so that it leans on nothing that is tested.
func bigOf(a impl.Wide) *big.Int {
	n := new(big.Int)
	for _, word := range []uint64{a.W3, a.W2, a.W1, a.W0} {
		n.Lsh(n, 64)
		n.Or(n, new(big.Int).SetUint64(word))
	}
	if a.W3>>63 == 1 {
		n.Sub(n, power(256))
	}
	return n
}

// wideOf is n as a Wide, and whether it is told.
func wideOf(n *big.Int) (impl.Wide, bool) {
	end := power(255)
	if n.Cmp(end) >= 0 || n.Cmp(new(big.Int).Neg(end)) < 0 {
		return impl.Wide{}, false
	}
	word := new(big.Int).Sub(power(64), big.NewInt(1))
	var w [4]uint64
	for i := range w {
		part := new(big.Int).Rsh(n, uint(64*i))
		w[i] = part.And(part, word).Uint64()
	}
	return impl.Wide{W3: w[3], W2: w[2], W1: w[1], W0: w[0]}, true
}

// dice are numbers that look thrown and are the same in every run.
type dice uint64

func (d *dice) word() uint64 {
	*d += 0x9e3779b97f4a7c15
	z := uint64(*d)
	z = (z ^ z>>30) * 0xbf58476d1ce4e5b9
	z = (z ^ z>>27) * 0x94d049bb133111eb
	return z ^ z>>31
}

// wide is a number of any length, often with words at the edges of what a word holds.
func (d *dice) wide() impl.Wide {
	edges := []uint64{0, 1, 2, 1<<63 - 1, 1 << 63, 1<<63 + 1, 1<<64 - 2, 1<<64 - 1}
	var w [4]uint64
	for i := range w {
		w[i] = d.word()
		if d.word()%2 == 0 {
			w[i] = edges[d.word()%uint64(len(edges))]
		}
	}
	size := new(big.Int).Rsh(bigOf(impl.Wide{W3: w[3] >> 1, W2: w[2], W1: w[1], W0: w[0]}), uint(d.word()%4*(d.word()%64)))
	if d.word()%2 == 0 {
		size.Neg(size)
	}
	a, _ := wideOf(size)
	return a
}

// edgeWides are the numbers at and next to the ends of all words and of a Wide.
func edgeWides() []impl.Wide {
	var out []impl.Wide
	seen := map[impl.Wide]bool{}
	put := func(n *big.Int) {
		for _, m := range []*big.Int{n, new(big.Int).Neg(n)} {
			if w, ok := wideOf(m); ok && !seen[w] {
				seen[w] = true
				out = append(out, w)
			}
		}
	}
	for _, n := range []int64{0, 1, 2, 3, 5, 6, 7, 9, 10, 12, 18, 30, 255, 256, 1000000} {
		put(big.NewInt(n))
	}
	for _, k := range []uint{31, 63, 64, 65, 126, 127, 128, 129, 191, 192, 253, 254, 255} {
		for add := int64(-2); add <= 2; add++ {
			put(new(big.Int).Add(power(k), big.NewInt(add)))
		}
	}
	put(new(big.Int).Exp(big.NewInt(3), big.NewInt(160), nil))
	put(new(big.Int).Exp(big.NewInt(10), big.NewInt(76), nil))
	put(new(big.Int).Exp(big.NewInt(10), big.NewInt(19), nil))
	put(new(big.Int).Div(power(255), big.NewInt(3)))
	put(new(big.Int).Sqrt(power(255)))
	put(new(big.Int).Add(new(big.Int).Sqrt(power(255)), big.NewInt(1)))
	return out
}

// pairsOf calls f with all pairs of edges, and with as many thrown ones.
func pairsOf(f func(a impl.Wide, b impl.Wide)) {
	edges := edgeWides()
	for _, a := range edges {
		for _, b := range edges {
			f(a, b)
		}
	}
	d := dice(1)
	for range len(edges) * len(edges) {
		f(d.wide(), d.wide())
	}
}
