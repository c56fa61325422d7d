package impl

import (
	"math/bits"
	"slices"
	"strings"
)

const (
	wideWords = 4
	longWords = 2 * wideWords
	// 2^255 has this many digits, and a number of so many is still less than 2^256.
	wideDigits = 77
)

type Wide struct {
	W3 uint64
	W2 uint64
	W1 uint64
	W0 uint64
}

// words are the bits of a Wide, the lowest 64 first, so that carries run the way an index does.
type words [wideWords]uint64

// long is a number in two's complement with room for the product of any two
// Wides and for the sum of two such products.
type long [longWords]uint64

// tall is a number of at least 0 of as many words as it needs, the highest one not 0.
type tall []uint64

// stretched has one word more than a long: division shifts what it divides up to a word's width.
type stretched [longWords + 1]uint64

func wordsOf(a Wide) words {
	return words{a.W0, a.W1, a.W2, a.W3}
}

func wideOf(w words) Wide {
	return Wide{W3: w[3], W2: w[2], W1: w[1], W0: w[0]}
}

// addWords and takeWords work on rows of one length; sum and left may be one of the others.
func addWords(sum []uint64, a []uint64, b []uint64) {
	var carry uint64
	for i := range sum {
		sum[i], carry = bits.Add64(a[i], b[i], carry)
	}
}

func takeWords(left []uint64, a []uint64, b []uint64) {
	var borrow uint64
	for i := range left {
		left[i], borrow = bits.Sub64(a[i], b[i], borrow)
	}
}

// countWords leaves out the noughts at the high end.
func countWords(row []uint64) int {
	n := len(row)
	for n > 0 && row[n-1] == 0 {
		n--
	}
	return n
}

func (a words) plus(b words) words {
	addWords(a[:], a[:], b[:])
	return a
}

func (a words) minus(b words) words {
	takeWords(a[:], a[:], b[:])
	return a
}

func (x long) plus(y long) long {
	addWords(x[:], x[:], y[:])
	return x
}

func (x long) minus(y long) long {
	takeWords(x[:], x[:], y[:])
	return x
}

func (x long) isBelow() bool {
	return x[longWords-1]>>63 == 1
}

// signed turns the sign of x when below holds.
func (x long) signed(below bool) long {
	if below {
		return long{}.minus(x)
	}
	return x
}

func (x long) size() long {
	return x.signed(x.isBelow())
}

func (x long) sign() int64 {
	if x.isBelow() {
		return -1
	}
	if x == (long{}) {
		return 0
	}
	return 1
}

func isBelow(a Wide) bool {
	return a.W3>>63 == 1
}

func WideOf(n int64) Wide {
	high := uint64(n >> 63)
	return Wide{W3: high, W2: high, W1: high, W0: uint64(n)}
}

func WideSign(a Wide) int64 {
	if isBelow(a) {
		return -1
	}
	if a == (Wide{}) {
		return 0
	}
	return 1
}

func WideCmp(a Wide, b Wide) int64 {
	x, y := wordsOf(a), wordsOf(b)
	// With the sign bit turned, numbers below 0 come ahead of the others.
	x[wideWords-1] ^= 1 << 63
	y[wideWords-1] ^= 1 << 63
	for i := wideWords - 1; i >= 0; i-- {
		if x[i] < y[i] {
			return -1
		}
		if x[i] > y[i] {
			return 1
		}
	}
	return 0
}

func WideAdd(a Wide, b Wide) (Wide, bool) {
	sum := wideOf(wordsOf(a).plus(wordsOf(b)))
	if isBelow(a) == isBelow(b) && isBelow(sum) != isBelow(a) {
		return Wide{}, false
	}
	return sum, true
}

func WideSub(a Wide, b Wide) (Wide, bool) {
	left := wideOf(wordsOf(a).minus(wordsOf(b)))
	if isBelow(a) != isBelow(b) && isBelow(left) != isBelow(a) {
		return Wide{}, false
	}
	return left, true
}

func WideNeg(a Wide) (Wide, bool) {
	return WideSub(Wide{}, a)
}

func longOf(a Wide) long {
	high := uint64(int64(a.W3) >> 63)
	return long{a.W0, a.W1, a.W2, a.W3, high, high, high, high}
}

// tellWide answers x if it is told: then, and only then, cutting it off loses nothing.
func tellWide(x long) (Wide, bool) {
	a := Wide{W3: x[3], W2: x[2], W1: x[1], W0: x[0]}
	if longOf(a) != x {
		return Wide{}, false
	}
	return a, true
}

// sizeOf is a without its sign; as bits without a sign, 2^255 has room too.
func sizeOf(a Wide) words {
	if isBelow(a) {
		return words{}.minus(wordsOf(a))
	}
	return wordsOf(a)
}

// addProduct adds x times y to sum, which has room for it.
func addProduct(sum []uint64, x []uint64, y []uint64) {
	for i, word := range x {
		var over uint64
		for j, other := range y {
			high, low := bits.Mul64(word, other)
			var carry uint64
			low, carry = bits.Add64(low, sum[i+j], 0)
			high += carry
			sum[i+j], carry = bits.Add64(low, over, 0)
			over = high + carry
		}
		for at := i + len(y); over != 0; at++ {
			sum[at], over = bits.Add64(sum[at], over, 0)
		}
	}
}

// times is the product of any two Wides.
func times(a Wide, b Wide) long {
	x, y := sizeOf(a), sizeOf(b)
	var product long
	addProduct(product[:], x[:countWords(x[:])], y[:countWords(y[:])])
	return product.signed(isBelow(a) != isBelow(b))
}

func WideMul(a Wide, b Wide) (Wide, bool) {
	return tellWide(times(a, b))
}

func liftUp(x long, by int) stretched {
	var up stretched
	for i, word := range x {
		up[i] |= word << by
		up[i+1] = word >> (64 - by)
	}
	return up
}

func liftDown(up stretched, by int) long {
	var x long
	for i := range x {
		x[i] = up[i]>>by | up[i+1]<<(64-by)
	}
	return x
}

// guessDigit is never less than the digit that is sought, and at most 2 more,
// when the highest bit of top is set.
func guessDigit(high uint64, low uint64, top uint64) uint64 {
	if high >= top {
		return 1<<64 - 1
	}
	digit, _ := bits.Div64(high, low, top)
	return digit
}

// timesDigit goes through the n words that by has, and no further.
func timesDigit(by stretched, n int, digit uint64) stretched {
	var part stretched
	var over uint64
	for i, word := range by[:n] {
		high, low := bits.Mul64(word, digit)
		var carry uint64
		part[i], carry = bits.Add64(low, over, 0)
		over = high + carry
	}
	part[n] = over
	return part
}

// takeDigit takes by, which has n words, from the rest at that place as often
// as it can, and answers how often, and what is left.
func takeDigit(rest stretched, by stretched, n int, place int) (uint64, stretched) {
	digit := guessDigit(rest[place+n], rest[place+n-1], by[n-1])
tries:
	for ; ; digit-- {
		part := timesDigit(by, n, digit)
		for i := n; i >= 0; i-- {
			if part[i] > rest[place+i] {
				continue tries
			}
			if part[i] < rest[place+i] {
				break
			}
		}
		window := rest[place : place+n+1]
		takeWords(window, window, part[:n+1])
		return digit, rest
	}
}

// divideLong answers quotient and rest of two numbers of at least 0, the second one not 0.
func divideLong(x long, y long) (long, long) {
	n := countWords(y[:])
	lift := bits.LeadingZeros64(y[n-1])
	by, rest := liftUp(y, lift), liftUp(x, lift)
	var quotient long
	// No digit stands higher than this: what lies above the place is less than by.
	for place := min(countWords(rest[:]), longWords) - n; place >= 0; place-- {
		quotient[place], rest = takeDigit(rest, by, n, place)
	}
	return quotient, liftDown(rest, lift)
}

// share is x / by, with the other sign when turned, if it is told; by divides x and is above 0.
func (x long) share(by long, turned bool) (Wide, bool) {
	quotient, _ := divideLong(x.size(), by)
	return tellWide(quotient.signed(x.isBelow() != turned))
}

func WideDiv(a Wide, b Wide) (Wide, Wide, bool) {
	if b == (Wide{}) {
		return Wide{}, Wide{}, false
	}
	size := longOf(b).size()
	quotient, rest := divideLong(longOf(a).size(), size)
	if isBelow(a) && rest != (long{}) {
		// The rest must not be below 0, so the quotient goes one step further from it.
		quotient = quotient.plus(long{1})
		rest = size.minus(rest)
	}
	q, ok := tellWide(quotient.signed(isBelow(a) != isBelow(b)))
	if !ok {
		return Wide{}, Wide{}, false
	}
	r, _ := tellWide(rest)
	return q, r, true
}

// commonOf is the greatest common divisor of two numbers of at least 0.
func commonOf(x long, y long) long {
	for countWords(y[:]) > 1 {
		_, rest := divideLong(x, y)
		x, y = y, rest
	}
	if y == (long{}) {
		return x
	}
	// Behind this step both fit in a word, where the machine's own rest is far faster.
	_, rest := divideLong(x, y)
	return long{commonOfWords(y[0], rest[0])}
}

func commonOfWords(x uint64, y uint64) uint64 {
	for y != 0 {
		x, y = y, x%y
	}
	return x
}

// times is t times the size of a.
func (t tall) times(a Wide) tall {
	return t.timesPlus(a, nil, Wide{})
}

// timesPlus is t times the size of a, and u times the size of b.
func (t tall) timesPlus(a Wide, u tall, b Wide) tall {
	x, y := sizeOf(a), sizeOf(b)
	sum := make(tall, max(len(t), len(u))+wideWords+1)
	addProduct(sum, t, x[:])
	addProduct(sum, u, y[:])
	return sum[:countWords(sum)]
}

func (t tall) grown(n int) tall {
	return append(slices.Clone(t), make(tall, n-len(t))...)
}

// minus answers t - u without its sign, and whether it is below 0.
func (t tall) minus(u tall) (tall, bool) {
	n := max(len(t), len(u)) + 1
	left := t.grown(n)
	takeWords(left, left, u.grown(n))
	below := left[n-1] != 0
	if below {
		takeWords(left, make(tall, n), left)
	}
	return left[:countWords(left)], below
}

// over answers quotient and rest of t and a number that leaves a long room for one word more.
func (t tall) over(by long) (tall, long) {
	quotient := make(tall, len(t))
	var rest long
	for i := len(t) - 1; i >= 0; i-- {
		digit := long{t[i]}
		copy(digit[1:], rest[:])
		digit, rest = divideLong(digit, by)
		quotient[i] = digit[0]
	}
	return quotient[:countWords(quotient)], rest
}

func WideGcd(a Wide, b Wide) (Wide, bool) {
	return tellWide(commonOf(longOf(a).size(), longOf(b).size()))
}

func WideBits(a Wide) int64 {
	size := sizeOf(a)
	n := countWords(size[:])
	if n == 0 {
		return 0
	}
	return int64(64*(n-1) + bits.Len64(size[n-1]))
}

// tenthOf answers a tenth of a number without a sign, and the rest.
func tenthOf(size words) (words, uint64) {
	var rest uint64
	for i := wideWords - 1; i >= 0; i-- {
		size[i], rest = bits.Div64(rest, size[i], 10)
	}
	return size, rest
}

// tenfold is ten times a number without a sign and one more digit.
func tenfold(size words, digit uint64) words {
	over := digit
	for i, word := range size {
		high, low := bits.Mul64(word, 10)
		var carry uint64
		size[i], carry = bits.Add64(low, over, 0)
		over = high + carry
	}
	return size
}

func WideText(a Wide) string {
	var text [1 + wideDigits]byte
	at := len(text)
	size, digit := tenthOf(sizeOf(a))
	for ; size != (words{}); size, digit = tenthOf(size) {
		at--
		text[at] = '0' + byte(digit)
	}
	at--
	text[at] = '0' + byte(digit)
	if isBelow(a) {
		at--
		text[at] = '-'
	}
	return string(text[at:])
}

// isDecimal tells whether these digits, without a sign, are a number in decimal.
func isDecimal(digits string) bool {
	if digits == "" || digits[0] == '0' && digits != "0" {
		return false
	}
	for i := range len(digits) {
		if digits[i] < '0' || digits[i] > '9' {
			return false
		}
	}
	return true
}

func ReadWide(s string) (Wide, bool) {
	digits, below := strings.CutPrefix(s, "-")
	if !isDecimal(digits) || len(digits) > wideDigits || below && digits == "0" {
		return Wide{}, false
	}
	var size words
	for i := range len(digits) {
		size = tenfold(size, uint64(digits[i]-'0'))
	}
	x := long{size[0], size[1], size[2], size[3]}
	return tellWide(x.signed(below))
}
