package impl

import "strings"

type Ratio struct {
	Up   Wide
	Down Wide
}

// fraction is a ratio on its way to lowest terms; its parts may be greater than any that is told.
type fraction struct {
	up   long
	down long
}

// lowest answers false when down is 0 or a part is not told.
func (f fraction) lowest() (Ratio, bool) {
	if f.down == (long{}) {
		return Ratio{}, false
	}
	common := commonOf(f.up.size(), f.down.size())
	up, ok := f.up.share(common, f.down.isBelow())
	if !ok {
		return Ratio{}, false
	}
	down, ok := f.down.share(common, f.down.isBelow())
	if !ok {
		return Ratio{}, false
	}
	return Ratio{Up: up, Down: down}, true
}

func (a Ratio) right() bool {
	common, ok := WideGcd(a.Up, a.Down)
	return ok && WideSign(a.Down) == 1 && common == WideOf(1)
}

// cross is Up as it stands over the Down of both.
func (a Ratio) cross(b Ratio) long {
	return times(a.Up, b.Down)
}

// order is asked of right ratios alone.
func (a Ratio) order(b Ratio) int64 {
	return a.cross(b).minus(b.cross(a)).sign()
}

func (a Ratio) plus(b Ratio) fraction {
	return fraction{up: a.cross(b).plus(b.cross(a)), down: times(a.Down, b.Down)}
}

func (a Ratio) times(b Ratio) fraction {
	return fraction{up: times(a.Up, b.Up), down: times(a.Down, b.Down)}
}

func (a Ratio) over(b Ratio) fraction {
	return fraction{up: a.cross(b), down: b.cross(a)}
}

func RatioOk(a Ratio) bool {
	return a.right()
}

func RatioOf(up Wide, down Wide) (Ratio, bool) {
	return fraction{up: longOf(up), down: longOf(down)}.lowest()
}

func RatioAdd(a Ratio, b Ratio) (Ratio, bool) {
	if !a.right() || !b.right() {
		return Ratio{}, false
	}
	return a.plus(b).lowest()
}

func RatioMul(a Ratio, b Ratio) (Ratio, bool) {
	if !a.right() || !b.right() {
		return Ratio{}, false
	}
	return a.times(b).lowest()
}

func RatioDiv(a Ratio, b Ratio) (Ratio, bool) {
	if !a.right() || !b.right() {
		return Ratio{}, false
	}
	return a.over(b).lowest()
}

func RatioCmp(a Ratio, b Ratio) (int64, bool) {
	if !a.right() || !b.right() {
		return 0, false
	}
	return a.order(b), true
}

func RatioFloor(a Ratio) (Wide, bool) {
	if !a.right() {
		return Wide{}, false
	}
	// Down is above 0 and the rest is not below it, so the quotient is the floor.
	floor, _, ok := WideDiv(a.Up, a.Down)
	return floor, ok
}

// underText and cutUnder write and read what all stands over; a 1 is never written.
func underText(down Wide) string {
	if down == WideOf(1) {
		return ""
	}
	return "/" + WideText(down)
}

func cutUnder(s string) (string, Wide, bool) {
	over, under, parted := strings.Cut(s, "/")
	if !parted {
		return over, WideOf(1), true
	}
	down, ok := ReadWide(under)
	return over, down, ok && down != WideOf(1)
}

func RatioText(a Ratio) string {
	if !a.right() {
		return ""
	}
	return WideText(a.Up) + underText(a.Down)
}

func ReadRatio(s string) (Ratio, bool) {
	over, down, ok := cutUnder(s)
	if !ok {
		return Ratio{}, false
	}
	up, ok := ReadWide(over)
	a := Ratio{Up: up, Down: down}
	if !ok || !a.right() {
		return Ratio{}, false
	}
	return a, true
}
