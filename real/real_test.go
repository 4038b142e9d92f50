package real_test

import (
	"math"
	"math/big"
	"slices"
	"testing"

	"torpor/real"
)

const (
	sign     = uint64(0x8000000000000000)
	none     = uint64(0x7ff8000000000000)
	above    = uint64(0x7ff0000000000000) // the infinite one above 0
	below    = uint64(0xfff0000000000000)
	greatest = uint64(0x7fefffffffffffff)
	normal   = uint64(0x0010000000000000) // the least normal one
	one      = uint64(0x3ff0000000000000)
	two      = uint64(0x4000000000000000)
)

// nones are the one word of what is none, and other words of its kind, of either sign.
var nones = []uint64{
	none, 0x7ff0000000000001, 0x7ff0000000000002, 0x7ff4000000000000, 0x7ff7ffffffffffff,
	0x7ff8000000000001, 0x7ffc000000000000, 0x7ffffffffffffffe, 0x7fffffffffffffff,
	0xfff8000000000000, 0xfff0000000000001, 0xfff4000000000000, 0xfff7ffffffffffff,
	0xfff8000000000001, 0xfffffffffffffffe, 0xffffffffffffffff,
}

// rising are reals above 0 in their order, by their words written out.
var rising = []uint64{
	// below the least normal one, and about it
	1, 2, 3, 0x0007ffffffffffff, 0x0008000000000000, 0x000ffffffffffffe, 0x000fffffffffffff,
	normal, normal + 1, 0x0020000000000000,
	// 2^-512, 2^-53, 0.1, about 0.5, about 1, 1.5, about 2, 2.25, 3
	0x1ff0000000000000, 0x3ca0000000000000, 0x3fb999999999999a,
	0x3fdfffffffffffff, 0x3fe0000000000000, 0x3fe0000000000001,
	0x3fefffffffffffff, one, one + 1, one + 2, 0x3ff8000000000000,
	two - 1, two, two + 1, 0x4002000000000000, 0x4008000000000000,
	// about 2^40
	0x426fffffffffffff, 0x4270000000000000, 0x4270000000000001,
	// 2^52 - 0.5, 2^52, 2^53 - 1, 2^53, 2^53 + 2
	0x432fffffffffffff, 0x4330000000000000, 0x433fffffffffffff, 0x4340000000000000, 0x4340000000000001,
	// 2^62, and about 2^63
	0x43d0000000000000, 0x43dfffffffffffff, 0x43e0000000000000, 0x43e0000000000001,
	// 2^512, 1e300, 2^1023, and up to what is infinite
	0x5ff0000000000000, 0x7e37e43c8800759c, 0x7fe0000000000000, greatest - 1, greatest,
}

// inOrder are all reals of rising, of either sign, with both zeros and both infinite ones, from the least key on.
func inOrder() []uint64 {
	list := []uint64{below}
	for _, x := range slices.Backward(rising) {
		list = append(list, x|sign)
	}
	list = append(list, sign, 0)
	list = append(list, rising...)
	return append(list, above)
}

// everyKind are inOrder and nones.
func everyKind() []uint64 {
	return append(inOrder(), nones...)
}

// mixed are n words without much order, the same ones each time.
func mixed(n int) []uint64 {
	list := make([]uint64, n)
	x := uint64(n)
	for i := range list {
		x = x*6364136223846793005 + 1442695040888963407
		list[i] = x ^ x>>29
	}
	return list
}

func isNone(x uint64) bool {
	return x&^sign > above
}

func isInfinite(x uint64) bool {
	return x&^sign == above
}

func isZero(x uint64) bool {
	return x&^sign == 0
}

// exact is what a word stands for, by its three parts: of an infinite one what would come next behind the greatest one.
func exact(x uint64) *big.Rat {
	part, power := int64(x&(1<<52-1)), int(x>>52&0x7ff)
	if power == 0 {
		power = 1
	} else {
		part += 1 << 52
	}
	r := new(big.Rat).SetInt64(part)
	shift := new(big.Rat).SetInt(new(big.Int).Lsh(big.NewInt(1), uint(max(power-1075, 1075-power))))
	if power < 1075 {
		shift.Inv(shift)
	}
	r.Mul(r, shift)
	if x&sign != 0 {
		r.Neg(r)
	}
	return r
}

// nearest is the word of an exact number, which has a sign of its own if it is 0.
func nearest(r *big.Rat, zero uint64) uint64 {
	if r.Sign() == 0 {
		return zero
	}
	f, _ := r.Float64()
	x := math.Float64bits(f)
	if r.Sign() < 0 {
		// What is too near to 0 keeps its sign.
		return x | sign
	}
	return x
}

func wantAdd(x, y uint64) uint64 {
	switch {
	case isNone(x), isNone(y), isInfinite(x) && y == x^sign:
		return none
	case isInfinite(x):
		return x
	case isInfinite(y):
		return y
	}
	// Of two zeros below 0 the sum is below 0, too.
	return nearest(new(big.Rat).Add(exact(x), exact(y)), x&y&sign)
}

func wantSub(x, y uint64) uint64 {
	return wantAdd(x, y^sign)
}

func wantMul(x, y uint64) uint64 {
	own := (x ^ y) & sign
	switch {
	case isNone(x), isNone(y), isInfinite(x) && isZero(y), isZero(x) && isInfinite(y):
		return none
	case isInfinite(x), isInfinite(y):
		return above | own
	}
	return nearest(new(big.Rat).Mul(exact(x), exact(y)), own)
}

func wantDiv(x, y uint64) uint64 {
	own := (x ^ y) & sign
	switch {
	case isNone(x), isNone(y), isInfinite(x) && isInfinite(y), isZero(x) && isZero(y):
		return none
	case isInfinite(x), isZero(y):
		return above | own
	case isInfinite(y):
		return own
	}
	return nearest(new(big.Rat).Quo(exact(x), exact(y)), own)
}

// reckonings are the four calls, each with what it must answer.
var reckonings = []struct {
	name      string
	call, own func(x, y uint64) uint64
}{
	{"Add", real.Add, wantAdd}, {"Sub", real.Sub, wantSub}, {"Mul", real.Mul, wantMul}, {"Div", real.Div, wantDiv},
}

// P5.1: Class, at the edges of each class, of either sign.
func TestClass(t *testing.T) {
	for x, want := range map[uint64]int{
		0: 0,
		1: 1, 2: 1, 0x0008000000000000: 1, 0x000fffffffffffff: 1,
		normal: 2, normal + 1: 2, one: 2, two: 2, greatest: 2,
		above: 3,
	} {
		for _, y := range []uint64{x, x | sign} {
			if got := real.Class(y); got != want {
				t.Errorf("Class(%#x) = %d, not %d", y, got, want)
			}
		}
	}
	for _, x := range nones {
		if got := real.Class(x); got != 4 {
			t.Errorf("Class(%#x) = %d, not 4", x, got)
		}
	}
	for _, x := range rising {
		want := 2
		if x < normal {
			want = 1
		}
		if got, other := real.Class(x), real.Class(x|sign); got != want || other != want {
			t.Errorf("Class(%#x) = %d, with the other sign %d, not %d", x, got, other, want)
		}
	}
}

// P5.1: Plain leaves all as it is but what is none.
func TestPlain(t *testing.T) {
	for _, x := range append(inOrder(), mixed(2000)...) {
		if got := real.Plain(x); !isNone(x) && got != x || isNone(x) && got != none {
			t.Errorf("Plain(%#x) = %#x", x, got)
		}
	}
	for _, x := range nones {
		if got := real.Plain(x); got != none {
			t.Errorf("Plain(%#x) = %#x", x, got)
		}
	}
}

// P5.1: Key and Unkey, by answers written out: also of words that are none.
func TestKey(t *testing.T) {
	for x, want := range map[uint64]uint64{
		0: sign, sign: 0x7fffffffffffffff,
		1: 0x8000000000000001, 0x8000000000000001: 0x7ffffffffffffffe,
		one: 0xbff0000000000000, 0xbff0000000000000: 0x400fffffffffffff,
		above: 0xfff0000000000000, below: 0x000fffffffffffff,
		none: 0xfff8000000000000, 0x7fffffffffffffff: 0xffffffffffffffff,
		0xfff8000000000000: 0x0007ffffffffffff, 0xffffffffffffffff: 0,
	} {
		if got := real.Key(x); got != want {
			t.Errorf("Key(%#x) = %#x, not %#x", x, got, want)
		}
		if got := real.Unkey(want); got != x {
			t.Errorf("Unkey(%#x) = %#x, not %#x", want, got, x)
		}
	}
	// Also what is none comes back as the word that it was.
	for _, x := range append(everyKind(), mixed(2000)...) {
		if got := real.Unkey(real.Key(x)); got != x {
			t.Errorf("%#x comes back as %#x", x, got)
		}
		if got := real.Key(real.Unkey(x)); got != x {
			t.Errorf("the key %#x comes back as %#x", x, got)
		}
	}
}

// P5.1: Less and Same, held against what the words stand for.
func TestLessSame(t *testing.T) {
	for _, x := range everyKind() {
		for _, y := range everyKind() {
			wantLess, wantSame := false, false
			if !isNone(x) && !isNone(y) {
				way := exact(x).Cmp(exact(y))
				wantLess, wantSame = way < 0, way == 0
			}
			if real.Less(x, y) != wantLess {
				t.Errorf("Less(%#x, %#x) = %v", x, y, !wantLess)
			}
			if real.Same(x, y) != wantSame {
				t.Errorf("Same(%#x, %#x) = %v", x, y, !wantSame)
			}
		}
	}
}

// P5.1: Less and Same, of both zeros, and of what is none.
func TestLessSameWrittenOut(t *testing.T) {
	for _, c := range []struct {
		x, y       uint64
		less, same bool
	}{
		{0, sign, false, true}, {sign, 0, false, true}, {sign, sign, false, true}, {0, 0, false, true},
		{sign, 1, true, false}, {sign | 1, 0, true, false}, {1, sign, false, false},
		{one, two, true, false}, {two, one, false, false}, {one | sign, one, true, false}, {two | sign, one | sign, true, false},
		{greatest, above, true, false}, {below, above, true, false}, {above, above, false, true}, {below, below, false, true},
		{none, none, false, false}, {none, one, false, false}, {one, none, false, false},
		{below, none, false, false}, {none, above, false, false}, {math.MaxUint64, 0, false, false}, {math.MaxUint64, math.MaxUint64, false, false},
	} {
		if less, same := real.Less(c.x, c.y), real.Same(c.x, c.y); less != c.less || same != c.same {
			t.Errorf("%#x, %#x: less %v, same %v", c.x, c.y, less, same)
		}
	}
}

// P5.1: Least and Most, of each two that stand in order.
func TestLeastMost(t *testing.T) {
	list := inOrder()
	for i, x := range list {
		for j, y := range list {
			low, high := list[min(i, j)], list[max(i, j)]
			if got := real.Least(x, y); got != low {
				t.Errorf("Least(%#x, %#x) = %#x", x, y, got)
			}
			if got := real.Most(x, y); got != high {
				t.Errorf("Most(%#x, %#x) = %#x", x, y, got)
			}
		}
	}
	// The zero below 0 is the lesser one, on whichever side it stands.
	if real.Least(0, sign) != sign || real.Least(sign, 0) != sign || real.Most(0, sign) != 0 || real.Most(sign, 0) != 0 {
		t.Error("zeros")
	}
}

// P5.1: Add, Sub, Mul, Div, held against exact numbers that are made the nearest words.
func TestReckoned(t *testing.T) {
	list := everyKind()
	others := mixed(3000)
	for _, c := range reckonings {
		for i, x := range list {
			for _, y := range list {
				checkReckoned(t, c.name, c.call, c.own, x, y)
			}
			checkReckoned(t, c.name, c.call, c.own, x, others[i])
		}
		for i := range len(others) - 1 {
			// Also two of which none is so much greater that the other one doesn't count.
			x, y := others[i], others[i+1]
			checkReckoned(t, c.name, c.call, c.own, x, y)
			checkReckoned(t, c.name, c.call, c.own, x, y&^(0x7ff<<52)|x&(0x7ff<<52))
		}
	}
}

func checkReckoned(t *testing.T, name string, call, own func(x, y uint64) uint64, x, y uint64) {
	t.Helper()
	if got, want := call(x, y), own(x, y); got != want {
		t.Errorf("%s(%#x, %#x) = %#x, not %#x", name, x, y, got, want)
	}
}

// P5.1: the four by answers written out: ties, zeros with their signs, what becomes infinite, what is too small, and the chapter's example.
func TestReckonedWrittenOut(t *testing.T) {
	for _, c := range []struct {
		name      string
		got, want uint64
	}{
		{"1 + 2^-53: to the one whose last bit is 0", real.Add(one, 0x3ca0000000000000), one},
		{"the next one + 2^-53: likewise", real.Add(one+1, 0x3ca0000000000000), one + 2},
		{"1 + a little more than 2^-53", real.Add(one, 0x3ca0000000000001), one + 1},
		{"0.1 + 0.2", real.Add(0x3fb999999999999a, 0x3fc999999999999a), 0x3fd3333333333334},
		{"1 - 1", real.Sub(one, one), 0},
		{"-1 + 1", real.Add(one|sign, one), 0},
		{"-0 + -0", real.Add(sign, sign), sign},
		{"-0 + 0", real.Add(sign, 0), 0},
		{"-0 - 0", real.Sub(sign, 0), sign},
		{"0 - 0", real.Sub(0, 0), 0},
		{"0 - 1", real.Sub(0, one), one | sign},
		{"the greatest one, twice", real.Add(greatest, greatest), above},
		{"the least normal one less the least one", real.Sub(normal, 1), 0x000fffffffffffff},
		{"infinite + the greatest one below 0", real.Add(above, greatest|sign), above},
		{"infinite twice", real.Add(below, below), below},
		{"-1 times 0", real.Mul(one|sign, 0), sign},
		{"1.5 times 1.5", real.Mul(0x3ff8000000000000, 0x3ff8000000000000), 0x4002000000000000},
		{"the greatest one times 2", real.Mul(greatest, two|sign), below},
		{"the least one times 0.5: to the one whose last bit is 0", real.Mul(1, 0x3fe0000000000000), 0},
		{"the least one below 0 times 0.5", real.Mul(sign|1, 0x3fe0000000000000), sign},
		{"three least ones times 0.5: likewise", real.Mul(3, 0x3fe0000000000000), 2},
		{"infinite times -1", real.Mul(above, one|sign), below},
		{"1 by 3", real.Div(one, 0x4008000000000000), 0x3fd5555555555555},
		{"1 by -0", real.Div(one, sign), below},
		{"1 by 0", real.Div(one, 0), above},
		{"-1 by -0", real.Div(one|sign, sign), above},
		{"1 by the infinite one below 0", real.Div(one, below), sign},
		{"0 by -1", real.Div(0, one|sign), sign},
		{"infinite by 0", real.Div(above, 0), above},
	} {
		if c.got != c.want {
			t.Errorf("%s: %#x, not %#x", c.name, c.got, c.want)
		}
	}
}

// P5.1: Up and Down, by answers written out.
func TestUpDown(t *testing.T) {
	for x, want := range map[uint64]uint64{
		0: 1, sign: 1, 1: 2, sign | 1: sign, sign | 2: sign | 1,
		0x000fffffffffffff: normal, sign | normal: 0x800fffffffffffff,
		0x3fefffffffffffff: one, one: one + 1, one | sign: 0xbfefffffffffffff, two - 1: two,
		greatest - 1: greatest, greatest: above, above: above, below: greatest | sign,
	} {
		if got := real.Up(x); got != want {
			t.Errorf("Up(%#x) = %#x, not %#x", x, got, want)
		}
		// Down is the same, seen from the other side.
		if got := real.Down(x ^ sign); got != want^sign {
			t.Errorf("Down(%#x) = %#x, not %#x", x^sign, got, want^sign)
		}
	}
	for _, x := range nones {
		if up, down := real.Up(x), real.Down(x); up != none || down != none {
			t.Errorf("of the none %#x: up %#x, down %#x", x, up, down)
		}
	}
}

// ints are whole numbers of both signs: about each power of two, about the ties above 2^53, and the least and the greatest one.
func ints() []int64 {
	list := []int64{0, 7, 1000003, 1<<53 + 3, 1<<53 + 5, 1<<54 + 2, 1<<54 + 6, 1<<62 + 1, math.MaxInt64, math.MaxInt64 - 511, math.MaxInt64 - 512, math.MaxInt64 - 513, math.MaxInt64 - 1535, math.MinInt64, math.MinInt64 + 512, math.MinInt64 + 513}
	for bit := range 63 {
		power := int64(1) << bit
		list = append(list, power-1, power, power+1, power+power/2)
	}
	for _, x := range mixed(500) {
		list = append(list, int64(x), int64(x)>>9, int64(x)>>20)
	}
	for _, i := range list {
		list = append(list, -i)
	}
	return list
}

// P5.1: FromInt, held against exact numbers, and by answers written out.
func TestFromInt(t *testing.T) {
	for _, i := range ints() {
		want := nearest(new(big.Rat).SetInt64(i), 0)
		if got := real.FromInt(i); got != want {
			t.Errorf("FromInt(%d) = %#x, not %#x", i, got, want)
		}
	}
	for i, want := range map[int64]uint64{
		0: 0, 1: one, 2: two, -1: one | sign, 3: 0x4008000000000000,
		1<<53 - 1: 0x433fffffffffffff, 1 << 53: 0x4340000000000000,
		1<<53 + 1: 0x4340000000000000, 1<<53 + 2: 0x4340000000000001, 1<<53 + 3: 0x4340000000000002,
		-1<<53 - 1: 0xc340000000000000, -1<<53 - 3: 0xc340000000000002,
		math.MaxInt64: 0x43e0000000000000, math.MaxInt64 - 511: 0x43e0000000000000, math.MaxInt64 - 512: 0x43dfffffffffffff,
		math.MinInt64: 0xc3e0000000000000, math.MinInt64 + 512: 0xc3e0000000000000, math.MinInt64 + 513: 0xc3dfffffffffffff,
	} {
		if got := real.FromInt(i); got != want {
			t.Errorf("FromInt(%d) = %#x, not %#x", i, got, want)
		}
	}
}

// wantToInt is what ToInt must answer, by an exact number.
func wantToInt(x uint64) int64 {
	if isNone(x) {
		return 0
	}
	r := exact(x)
	whole := new(big.Int).Quo(r.Num(), r.Denom()) // towards 0
	switch {
	case whole.Cmp(big.NewInt(math.MaxInt64)) > 0:
		return math.MaxInt64
	case whole.Cmp(big.NewInt(math.MinInt64)) < 0:
		return math.MinInt64
	}
	return whole.Int64()
}

// P5.1: ToInt, held against exact numbers, and by answers written out.
func TestToInt(t *testing.T) {
	list := append(everyKind(), mixed(1000)...)
	for _, i := range ints() {
		x := math.Float64bits(float64(i))
		list = append(list, x, x+1, x-1)
	}
	for _, x := range list {
		if got, want := real.ToInt(x), wantToInt(x); got != want {
			t.Errorf("ToInt(%#x) = %d, not %d", x, got, want)
		}
	}
	for f, want := range map[float64]int64{
		0.5: 0, -0.5: 0, 0.9999999999999999: 0, -0.9999999999999999: 0, 1: 1, -1: -1,
		1.9999999999999998: 1, -1.9999999999999998: -1, 2.5: 2, -2.5: -2, 3.5: 3, -3.5: -3,
		1<<52 - 0.5: 1<<52 - 1, -1<<52 + 0.5: -1<<52 + 1,
		1<<63 - 1024: math.MaxInt64 - 1023, 1 << 63: math.MaxInt64, 1<<63 + 2048: math.MaxInt64,
		-1<<63 + 1024: math.MinInt64 + 1024, -1 << 63: math.MinInt64, -1<<63 - 2048: math.MinInt64,
		1 << 64: math.MaxInt64, -1 << 64: math.MinInt64, math.MaxFloat64: math.MaxInt64, -math.MaxFloat64: math.MinInt64,
		math.Inf(1): math.MaxInt64, math.Inf(-1): math.MinInt64,
		math.SmallestNonzeroFloat64: 0, -math.SmallestNonzeroFloat64: 0,
	} {
		if got := real.ToInt(math.Float64bits(f)); got != want {
			t.Errorf("ToInt of %g = %d, not %d", f, got, want)
		}
	}
	for _, x := range append(slices.Clone(nones), 0, sign) {
		if got := real.ToInt(x); got != 0 {
			t.Errorf("ToInt(%#x) = %d, not 0", x, got)
		}
	}
}

// wantTicks is what Ticks must answer, by an exact number.
func wantTicks(x uint64) int64 {
	if isNone(x) || x&sign != 0 || isZero(x) {
		return 0
	}
	r := exact(x)
	whole, rest := new(big.Int).QuoRem(r.Num(), r.Denom(), new(big.Int))
	if rest.Sign() > 0 {
		whole.Add(whole, big.NewInt(1))
	}
	if whole.Cmp(big.NewInt(1<<40)) > 0 {
		return 1 << 40
	}
	return whole.Int64()
}

// P5.1: Ticks, held against exact numbers, and by answers written out: also the chapter's examples.
func TestTicks(t *testing.T) {
	list := append(everyKind(), mixed(1000)...)
	for _, i := range ints() {
		x := math.Float64bits(float64(i))
		list = append(list, x, x+1, x-1)
	}
	for _, x := range list {
		if got, want := real.Ticks(x), wantTicks(x); got != want {
			t.Errorf("Ticks(%#x) = %d, not %d", x, got, want)
		}
	}
	for f, want := range map[float64]int64{
		2.25: 3, -1: 0, 0: 0, math.SmallestNonzeroFloat64: 1, -math.SmallestNonzeroFloat64: 0, 0.5: 1, -0.5: 0,
		0.9999999999999999: 1, 1: 1, 1.0000000000000002: 2, 1.5: 2, 2: 2, 2.5: 3, 2.9999999999999996: 3, 3: 3, 3.0000000000000004: 4, 1000: 1000,
		1<<40 - 1: 1<<40 - 1, 1<<40 - 0.5: 1 << 40, 1<<40 - 1.5: 1<<40 - 1, 1 << 40: 1 << 40, 1<<40 + 0.5: 1 << 40, 1<<40 + 1: 1 << 40,
		1 << 41: 1 << 40, 1 << 63: 1 << 40, math.MaxFloat64: 1 << 40, -math.MaxFloat64: 0, math.Inf(1): 1 << 40, math.Inf(-1): 0,
	} {
		if got := real.Ticks(math.Float64bits(f)); got != want {
			t.Errorf("Ticks of %g = %d, not %d", f, got, want)
		}
	}
	for _, x := range append(slices.Clone(nones), 0, sign) {
		if got := real.Ticks(x); got != 0 {
			t.Errorf("Ticks(%#x) = %d, not 0", x, got)
		}
	}
}

// P5.2: greater reals have greater keys.
func TestKeysInOrder(t *testing.T) {
	list := inOrder()
	for i, x := range list {
		for _, y := range list[:i] {
			if real.Key(y) >= real.Key(x) {
				t.Errorf("keys of %#x, %#x: %#x, %#x", y, x, real.Key(y), real.Key(x))
			}
		}
	}
	for _, x := range mixed(60) {
		for _, y := range mixed(61) {
			if !isNone(x) && !isNone(y) && real.Less(x, y) != (real.Key(x) < real.Key(y)) {
				t.Errorf("keys of %#x, %#x: %#x, %#x", x, y, real.Key(x), real.Key(y))
			}
		}
	}
}

// P5.2: Up and Down go one step each, and back; only the two zeros are gone over as one, and behind the infinite ones is nothing.
func TestOneStep(t *testing.T) {
	for _, x := range append(inOrder(), mixed(2000)...) {
		if isNone(x) || isZero(x) {
			continue
		}
		up, down := real.Up(x), real.Down(x)
		if x != above && (real.Key(up) != real.Key(x)+1 || !real.Less(x, up) || real.Down(up) != x) {
			t.Errorf("Up(%#x) = %#x", x, up)
		}
		if x != below && (real.Key(down) != real.Key(x)-1 || !real.Less(down, x) || real.Up(down) != x) {
			t.Errorf("Down(%#x) = %#x", x, down)
		}
	}
	x := sign | 3
	for _, want := range []uint64{sign | 2, sign | 1, sign, 1, 2, 3} {
		if x = real.Up(x); x != want {
			t.Errorf("on the way up %#x, not %#x", x, want)
		}
	}
	for _, want := range []uint64{2, 1, 0, sign | 1, sign | 2, sign | 3} {
		if x = real.Down(x); x != want {
			t.Errorf("on the way down %#x, not %#x", x, want)
		}
	}
}

// P5.2: whole numbers up to 2^53 come back as they were, the first one behind it doesn't.
func TestIntsThereAndBack(t *testing.T) {
	check := func(i int64) {
		t.Helper()
		if got := real.ToInt(real.FromInt(i)); got != i {
			t.Errorf("%d comes back as %d", i, got)
		}
	}
	for i := int64(-3000); i <= 3000; i++ {
		check(i)
	}
	for i := int64(1<<53 - 2000); i <= 1<<53; i++ {
		check(i)
		check(-i)
	}
	for _, i := range ints() {
		if i >= -1<<53 && i <= 1<<53 {
			check(i)
		}
	}
	if got := real.ToInt(real.FromInt(1<<53 + 1)); got != 1<<53 {
		t.Errorf("2^53 + 1 comes back as %d", got)
	}
	check(1<<53 + 2)
	check(math.MinInt64)
	check(math.MaxInt64) // by way of 2^63, which is beyond
}

// P5.3: what is reckoned with one that is none, on either side, is the one word of it.
func TestNoneStaysNone(t *testing.T) {
	for _, x := range nones {
		for _, y := range append(everyKind(), mixed(100)...) {
			for _, c := range reckonings {
				if first, second := c.call(x, y), c.call(y, x); first != none || second != none {
					t.Errorf("%s of %#x and %#x: %#x, %#x", c.name, x, y, first, second)
				}
			}
			if low, high := real.Least(x, y), real.Most(x, y); low != none || high != none {
				t.Errorf("of %#x and %#x: least %#x, most %#x", x, y, low, high)
			}
			if low, high := real.Least(y, x), real.Most(y, x); low != none || high != none {
				t.Errorf("of %#x and %#x: least %#x, most %#x", y, x, low, high)
			}
		}
	}
}

// P5.3: none comes of infinite less infinite, of zero times infinite, of zero by zero, of infinite by infinite.
func TestNoneComes(t *testing.T) {
	zeros, infinites := []uint64{0, sign}, []uint64{above, below}
	check := func(name string, got uint64) {
		t.Helper()
		if got != none {
			t.Errorf("%s: %#x", name, got)
		}
	}
	for _, x := range infinites {
		check("infinite less itself", real.Sub(x, x))
		check("infinite and the other one", real.Add(x, x^sign))
		if real.Sub(x, x^sign) != x || real.Add(x, x) != x {
			t.Errorf("%#x: less the other one, and twice, it is itself", x)
		}
		for _, zero := range zeros {
			check("zero times infinite", real.Mul(zero, x))
			check("infinite times zero", real.Mul(x, zero))
		}
		for _, y := range infinites {
			check("infinite by infinite", real.Div(x, y))
		}
	}
	for _, x := range zeros {
		for _, y := range zeros {
			check("zero by zero", real.Div(x, y))
		}
	}
}
