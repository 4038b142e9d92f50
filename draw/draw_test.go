package draw_test

import (
	"math"
	"math/big"
	"slices"
	"testing"

	"torpor/draw"
	"torpor/real"
)

const (
	golden = uint64(0x9e3779b97f4a7c15) // from a state to the next one
	ahead  = uint64(0x61c8864680b583eb) // the state whose next one is 0
	most   = uint64(math.MaxUint64)
	lowest = 0x7ff // the bits of a word that its unit doesn't have
	sign   = uint64(1) << 63
	none   = uint64(0x7ff8000000000000)
	above  = uint64(0x7ff0000000000000) // the infinite one above 0
	below  = uint64(0xfff0000000000000)
	one    = uint64(0x3ff0000000000000)
	half   = uint64(0x3fe0000000000000)
)

// states are 0 and the greatest one, single bits, those about where the sum goes round, and some between.
func states() []uint64 {
	list := []uint64{0, 2, 3, 5, 7, 1234567, 0x123456789abcdef0, most, most - 1, most - 2, sign - 1, sign + 1, golden, golden - 1, golden + 1, ahead, ahead - 1, ahead + 1}
	for bit := range 64 {
		list = append(list, 1<<bit, most>>bit, ^(uint64(1) << bit))
	}
	x := uint64(3)
	for range 500 {
		x = x*6364136223846793005 + 1442695040888963407
		list = append(list, x^x>>29)
	}
	return list
}

// cut is a number's lowest 64 bits.
func cut(x *big.Int) *big.Int {
	return x.And(x, new(big.Int).SetUint64(most))
}

func number(x uint64) *big.Int {
	return new(big.Int).SetUint64(x)
}

// slowNext is what Next must answer, by the chapter's words and with numbers of any length.
func slowNext(s uint64) (after, word uint64) {
	x := cut(new(big.Int).Add(number(s), number(golden)))
	after = x.Uint64()
	for _, step := range []struct {
		down  uint
		times uint64
	}{{30, 0xbf58476d1ce4e5b9}, {27, 0x94d049bb133111eb}, {31, 1}} {
		x = new(big.Int).Xor(x, new(big.Int).Rsh(x, step.down))
		x = cut(x.Mul(x, number(step.times)))
	}
	return after, x.Uint64()
}

// undone is the state whose own word (not the next one's) is given: each step of the mixing taken back, the last one first.
func undone(word uint64) uint64 {
	const first, second = 0x96de1b173f119089, 0x319642b2d24d8ec3 // what takes the two factors back
	x := (word ^ word>>31 ^ word>>62) * second
	x = (x ^ x>>27 ^ x>>54) * first
	return x ^ x>>30 ^ x>>60
}

// exact is what a real stands for; it must be finite.
func exact(t *testing.T, x uint64) *big.Rat {
	t.Helper()
	r := new(big.Rat).SetFloat64(math.Float64frombits(x))
	if r == nil {
		t.Fatalf("%#x is not finite", x)
	}
	return r
}

// P6.1: Next, by answers written out: the chapter's example, the states about which the sum goes round, and words that are known of old.
func TestNext(t *testing.T) {
	for _, c := range []struct{ s, after, word uint64 }{
		{0, golden, 0xe220a8397b1dcdaf},
		{1, 0x9e3779b97f4a7c16, 0x910a2dec89025cc1},
		{2, 0x9e3779b97f4a7c17, 0x975835de1c9756ce},
		{golden, 0x3c6ef372fe94f82a, 0x6e789e6aa1b965f4},
		{most, 0x9e3779b97f4a7c14, 0xe4d971771b652c20},
		{most - 1, 0x9e3779b97f4a7c13, 0xf3203e9039f4a821},
		{sign, 0x1e3779b97f4a7c15, 0x481ec0a212a9f3db},
		{sign - 1, 0x1e3779b97f4a7c14, 0x2a67d7552e039ea7},
		{ahead, 0, 0},
		{0x61c8864680b583ea, most, 0xb4d055fcf2cbbd7b},
		{0x61c8864680b583ec, 1, 0x5692161d100b05e5},
		{0x123456789abcdef0, 0xb06bd0321a075b05, 0x161922c645ce50e8},
		{0xffffffff, 0x9e3779ba7f4a7c14, 0x73b13ba2aff181c0},
	} {
		if after, word := draw.Next(c.s); after != c.after || word != c.word {
			t.Errorf("Next(%#x) = %#x, %#x, not %#x, %#x", c.s, after, word, c.after, c.word)
		}
	}
	s := uint64(1234567)
	for _, want := range []uint64{6457827717110365317, 3203168211198807973, 9817491932198370423, 4593380528125082431, 16408922859458223821} {
		var word uint64
		if s, word = draw.Next(s); word != want {
			t.Errorf("of 1234567: %d, not %d", word, want)
		}
	}
}

// P6.1: Next, held against numbers of any length; and it hangs on the state alone.
func TestNextSlowly(t *testing.T) {
	for _, s := range states() {
		after, word := draw.Next(s)
		if wantAfter, wantWord := slowNext(s); after != wantAfter || word != wantWord {
			t.Errorf("Next(%#x) = %#x, %#x, not %#x, %#x", s, after, word, wantAfter, wantWord)
		}
		if again, same := draw.Next(s); again != after || same != word {
			t.Errorf("Next(%#x) is first %#x, %#x, then %#x, %#x", s, after, word, again, same)
		}
	}
}

// P6.1: Back leads to the state whose next one it was given.
func TestBack(t *testing.T) {
	for s, want := range map[uint64]uint64{
		0: ahead, 1: 0x61c8864680b583ec, most: 0x61c8864680b583ea,
		golden: 0, golden - 1: most, golden + 1: 1, 0x3c6ef372fe94f82a: golden,
	} {
		if got := draw.Back(s); got != want {
			t.Errorf("Back(%#x) = %#x, not %#x", s, got, want)
		}
	}
	for _, s := range states() {
		after, _ := draw.Next(s)
		if got := draw.Back(after); got != s {
			t.Errorf("Back of the next state of %#x is %#x", s, got)
		}
		if got, _ := draw.Next(draw.Back(s)); got != s {
			t.Errorf("the next state of Back(%#x) is %#x", s, got)
		}
	}
}

// P6.1: Many draws what as many calls of Next do, in order, up to 1000 of them.
func TestMany(t *testing.T) {
	for _, s := range []uint64{0, 1, 7, most, sign, golden, ahead, ahead - 1} {
		var want []uint64
		last := s
		for n := range 1001 {
			if words, after := draw.Many(s, n); !slices.Equal(words, want) || after != last {
				t.Fatalf("Many(%#x, %d): %d words, and %#x", s, n, len(words), after)
			}
			var word uint64
			last, word = slowNext(last)
			want = append(want, word)
		}
	}
}

// P6.1: Many, by answers written out.
func TestManyWrittenOut(t *testing.T) {
	words, after := draw.Many(0, 3)
	if !slices.Equal(words, []uint64{0xe220a8397b1dcdaf, 0x6e789e6aa1b965f4, 0x06c45d188009454f}) || after != 0xdaa66d2c7ddf743f {
		t.Errorf("three of 0: %#x, %#x", words, after)
	}
	words, after = draw.Many(ahead, 2)
	if !slices.Equal(words, []uint64{0, 0xe220a8397b1dcdaf}) || after != golden {
		t.Errorf("two ahead of 0: %#x, %#x", words, after)
	}
	for _, c := range []struct{ s, after, last uint64 }{
		{0, 0x08b37c993af4b208, 0x14e0abb2bfcf7c3e},
		{7, 0x08b37c993af4b20f, 0x9793fb91046fffee},
		{most, 0x08b37c993af4b207, 0x82bd385046d33fbf},
	} {
		words, after := draw.Many(c.s, 1000)
		if len(words) != 1000 || words[999] != c.last || after != c.after {
			t.Errorf("1000 of %#x: %d words, behind them %#x", c.s, len(words), after)
		}
	}
}

// P6.1: Many of none, of fewer, and of more than 1000 answers no words, and the state as it was.
func TestManyOfNone(t *testing.T) {
	for _, s := range []uint64{0, 1, 7, most, sign, golden, ahead} {
		for _, n := range []int{0, -1, -2, -1000, math.MinInt, math.MinInt32, 1001, 1002, 2000, 1 << 20, math.MaxInt32, math.MaxInt} {
			if words, after := draw.Many(s, n); len(words) != 0 || after != s {
				t.Errorf("Many(%#x, %d): %d words, and %#x", s, n, len(words), after)
			}
		}
	}
}

// P6.1: what Many answered is the caller's own: no later answer shows what was done to it.
func TestManyAnswersNewMemory(t *testing.T) {
	first, _ := draw.Many(7, 20)
	kept := slices.Clone(first)
	second, _ := draw.Many(7, 20)
	clear(first)
	if third, _ := draw.Many(7, 20); !slices.Equal(second, kept) || !slices.Equal(third, kept) {
		t.Error("an answer is another one, since an earlier one was changed")
	}
}

// P6.1: Below, by answers written out: the least and the greatest word, n of 1 and at the greatest int, n of 0 and below it.
func TestBelow(t *testing.T) {
	for _, c := range []struct {
		word uint64
		n    int
		want int
	}{
		{0, 1, 0}, {most, 1, 0}, {sign, 1, 0},
		{0, 2, 0}, {sign - 1, 2, 0}, {sign, 2, 1}, {most, 2, 1},
		{0, 5, 0}, {most, 5, 4}, {sign, 5, 2}, {1 << 62, 4, 1}, {1<<62 - 1, 4, 0},
		{0x5555555555555555, 3, 0}, {0x5555555555555556, 3, 1}, {0xaaaaaaaaaaaaaaaa, 3, 1}, {0xaaaaaaaaaaaaaaab, 3, 2},
		{0, math.MaxInt, 0}, {1, math.MaxInt, 0}, {2, math.MaxInt, 0}, {3, math.MaxInt, 1}, {sign, math.MaxInt, math.MaxInt / 2}, {most, math.MaxInt, math.MaxInt - 1},
		{most, math.MaxInt32, math.MaxInt32 - 1}, {1 << 32, 1 << 32, 1}, {1<<32 - 1, 1 << 32, 0},
		{0xe220a8397b1dcdaf, 100, 88},
		{0, 0, 0}, {sign, 0, 0}, {most, 0, 0},
		{0, -1, 0}, {most, -1, 0}, {sign, -1, 0}, {most, -9, 0}, {0, math.MinInt, 0}, {sign, math.MinInt, 0}, {most, math.MinInt, 0},
	} {
		if got := draw.Below(c.word, c.n); got != c.want {
			t.Errorf("Below(%#x, %d) = %d, not %d", c.word, c.n, got, c.want)
		}
	}
}

// P6.1, P6.2: Below, held against numbers of any length; and what is drawn below n is.
func TestBelowSlowly(t *testing.T) {
	for _, n := range []int{1, 2, 3, 4, 5, 7, 12, 100, 1000, 1 << 20, math.MaxInt32, 1 << 32, 1<<32 + 1, 1000000007, 1 << 53, 1 << 62, 1<<62 + 1, math.MaxInt - 1, math.MaxInt} {
		for _, word := range states() {
			got := draw.Below(word, n)
			product := new(big.Int).Mul(number(word), big.NewInt(int64(n)))
			if want := product.Rsh(product, 64).Int64(); int64(got) != want {
				t.Errorf("Below(%#x, %d) = %d, not %d", word, n, got, want)
			}
			if got < 0 || got >= n {
				t.Errorf("Below(%#x, %d) = %d", word, n, got)
			}
		}
	}
}

// P6.1, P6.2: each number below n is drawn, from just the word on that is the first one for it.
func TestBelowEach(t *testing.T) {
	for _, n := range []int{1, 2, 3, 5, 12, 64, 1000} {
		for k := range n {
			// The first word for k is k times 2^64 by n, rounded up.
			first := new(big.Int).Lsh(big.NewInt(int64(k)), 64)
			first.Add(first, big.NewInt(int64(n-1))).Quo(first, big.NewInt(int64(n)))
			word := first.Uint64()
			if got := draw.Below(word, n); got != k {
				t.Errorf("Below(%#x, %d) = %d, not %d", word, n, got, k)
			}
			if got := draw.Below(word-1, n); k > 0 && got != k-1 {
				t.Errorf("Below(%#x, %d) = %d, not %d", word-1, n, got, k-1)
			}
		}
	}
}

// P6.1: Unit, by answers written out: of 0, of the greatest word, and at the edges of the upper 53 bits.
func TestUnit(t *testing.T) {
	for word, want := range map[uint64]uint64{
		0: 0, 1: 0, 1024: 0, 2047: 0,
		2048: 0x3ca0000000000000, 4095: 0x3ca0000000000000, 4096: 0x3cb0000000000000, // 2^-53, 2^-52
		1 << 32: 0x3df0000000000000,
		1 << 62: 0x3fd0000000000000, sign - 1: 0x3fdffffffffffffe, sign: half, sign + 2047: half, sign + 2048: half + 1,
		3 << 62: 0x3fe8000000000000,
		most:    one - 1, most - 2047: one - 1, most - 2048: one - 2,
		0xe220a8397b1dcdaf: 0x3fec4415072f63b9,
	} {
		if got := draw.Unit(word); got != want {
			t.Errorf("Unit(%#x) = %#x, not %#x", word, got, want)
		}
	}
}

// P6.1, P6.2: Unit, held against exact numbers; a unit is from 0 to below 1, and hangs on the upper 53 bits alone.
func TestUnitExactly(t *testing.T) {
	for _, word := range states() {
		unit := draw.Unit(word)
		want := new(big.Rat).SetFrac(number(word>>11), new(big.Int).Lsh(big.NewInt(1), 53))
		if exact(t, unit).Cmp(want) != 0 {
			t.Errorf("Unit(%#x) = %#x, not %s", word, unit, want)
		}
		if unit&sign != 0 || real.Less(unit, 0) || !real.Less(unit, one) {
			t.Errorf("Unit(%#x) = %#x", word, unit)
		}
		for _, other := range []uint64{word &^ lowest, word | lowest, word ^ 1, word ^ 1<<10, word ^ 0x2aa} {
			if got := draw.Unit(other); got != unit {
				t.Errorf("Unit(%#x) = %#x, but Unit(%#x) = %#x", other, got, word, unit)
			}
		}
		if next := word | lowest; next != most && !real.Less(unit, draw.Unit(next+1)) {
			t.Errorf("Unit(%#x) = %#x isn't above Unit(%#x)", next+1, draw.Unit(next+1), word)
		}
	}
}

// P6.1: Chance, by answers written out: of 0, of both zeros, just above 0, of 1, beyond both, of the infinite ones, and of one that is none.
func TestChance(t *testing.T) {
	nones := []uint64{none, none | sign, 0x7ff0000000000001, 0xfff0000000000001, 0x7fffffffffffffff, most}
	for _, word := range states() {
		unit := draw.Unit(word)
		for p, want := range map[uint64]bool{
			0: false, sign: false, // no unit is below a zero
			1:   unit == 0,           // the least real above 0
			one: true, one + 1: true, // all units are below 1
			0x4000000000000000: true, 0x7fefffffffffffff: true, above: true,
			one - 1: unit != one-1, half: word < sign,
			sign | 1: false, one | sign: false, half | sign: false, 0xffefffffffffffff: false, below: false,
		} {
			if got := draw.Chance(word, p); got != want {
				t.Errorf("Chance(%#x, %#x) = %v", word, p, got)
			}
		}
		for _, p := range nones {
			if draw.Chance(word, p) {
				t.Errorf("Chance(%#x, %#x)", word, p)
			}
		}
	}
	for _, c := range []struct {
		word, p uint64
		want    bool
	}{
		{0, 0, false}, {0, sign, false}, {0, 1, true}, {2047, 1, true}, {2048, 1, false},
		{2048, 0x3ca0000000000000, false}, {2047, 0x3ca0000000000000, true}, {2048, 0x3ca0000000000001, true},
		{sign, half, false}, {sign + 2047, half, false}, {sign - 1, half, true}, {sign, half + 1, true}, {sign + 2047, half + 1, true}, {sign + 2048, half + 1, false},
		{most, one - 1, false}, {most, one, true}, {most - 2048, one - 1, true},
	} {
		if got := draw.Chance(c.word, c.p); got != c.want {
			t.Errorf("Chance(%#x, %#x) = %v", c.word, c.p, got)
		}
	}
}

// P6.1: Chance just at a word's own unit: not of the unit itself, nor of the next lesser real, but of the next greater one.
func TestChanceAtUnit(t *testing.T) {
	for _, word := range states() {
		unit := draw.Unit(word)
		if draw.Chance(word, unit) || draw.Chance(word, real.Down(unit)) || !draw.Chance(word, real.Up(unit)) {
			t.Errorf("about the unit %#x of %#x", unit, word)
		}
		// The lowest bits tell nothing, also not just at the unit.
		if draw.Chance(word&^lowest, unit) || draw.Chance(word|lowest, unit) || !draw.Chance(word|lowest, real.Up(unit)) {
			t.Errorf("about the unit %#x, with other lowest bits than %#x", unit, word)
		}
	}
}

// P6.2: unlike states have unlike words, since each word leads back to the state that it came of.
func TestUnlikeWords(t *testing.T) {
	from := map[uint64]uint64{}
	check := func(s uint64) {
		t.Helper()
		after, word := draw.Next(s)
		if got := undone(word); got != after {
			t.Errorf("the word %#x of %#x comes of %#x", word, after, got)
		}
		if other, met := from[word]; met && other != s {
			t.Errorf("%#x and %#x have the word %#x", s, other, word)
		}
		from[word] = s
	}
	for _, s := range states() {
		check(s)
	}
	for i := range uint64(20000) {
		check(i)
		check(-i)
		check(ahead + i)
		check(sign + i)
	}
}

// P6.2: also what is drawn one by one from a state is never twice the same.
func TestUnlikeWordsInARow(t *testing.T) {
	met := map[uint64]int{}
	s := uint64(0)
	for round := range 50 {
		var words []uint64
		words, s = draw.Many(s, 1000)
		for _, word := range words {
			met[word]++
		}
		if len(met) != 1000*(round+1) {
			t.Fatalf("%d words are %d unlike ones", 1000*(round+1), len(met))
		}
	}
}
