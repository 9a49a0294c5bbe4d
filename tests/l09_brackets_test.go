package tests

import (
	"math/rand"
	"testing"

	"loop.example/g01219/impl"
)

// bracketCase has the text of an algebra, two derivations with their Drops, and the images of their bracket and of the
// bracket turned round.
type bracketCase struct {
	a            string
	k            int64
	s            []string
	m            int64
	d            []string
	want, turned []string
}

func bracketCases() []bracketCase {
	return []bracketCase{
		{"", 0, nil, 0, nil, nil, nil},
		{"", 12, nil, 0, nil, nil, nil},
		{"", 5, nil, 7, nil, nil, nil},
		// Two even Drops.
		{"2:0;2:0", 0, []string{"1*b", "0"}, 0, []string{"0", "1*a"}, []string{"10006*a", "1*b"}, []string{"1*a", "10006*b"}},
		{"2:0;2:0", 0, []string{"1*a", "10006*b"}, 0, []string{"1*b", "0"}, []string{"10005*b", "0"}, []string{"2*b", "0"}},
		{"2:0;2:0", 0, []string{"1*a", "2*b"}, 0, []string{"3*a", "5*b"}, []string{"0", "0"}, []string{"0", "0"}},
		{"1:0;1:0", 0, []string{"1*b", "0"}, 0, []string{"0", "1*a"}, []string{"10006*a", "1*b"}, []string{"1*a", "10006*b"}},
		{"4:0;2:0", 0, []string{"5*b2", "0"}, 2, []string{"0", "1*1"}, []string{"9997*b", "0"}, []string{"10*b", "0"}},
		{"2:0;4:0;6:0", 2, []string{"0", "1*a", "0"}, 2, []string{"0", "0", "1*b"}, []string{"0", "0", "1*a"}, []string{"0", "0", "10006*a"}},
		{"2:0;12:0", 2, []string{"1*1", "0"}, 10, []string{"0", "1*a"}, []string{"0", "1*1"}, []string{"0", "10006*1"}},
		// Two odd Drops, which add up when turned round.
		{"3:0;2:0;1:0", 1, []string{"0", "1*c", "0"}, 1, []string{"1*b", "0", "0"}, []string{"1*c", "0", "0"}, []string{"1*c", "0", "0"}},
		{"3:0;2:0;1:0", 1, []string{"1*b", "1*c", "0"}, 1, []string{"1*b", "1*c", "0"}, []string{"2*c", "0", "0"}, []string{"2*c", "0", "0"}},
		{"1:0;2:0;3:0", 1, []string{"1*1", "0", "0"}, 1, []string{"0", "1*a", "1*b"}, []string{"0", "1*1", "0"}, []string{"0", "1*1", "0"}},
		{"1:0;4:0;5:0", 1, []string{"1*1", "0", "0"}, 1, []string{"0", "0", "1*b"}, []string{"0", "0", "0"}, []string{"0", "0", "0"}},
		{"1:0;3:0;5:0", 1, []string{"1*1", "0", "0"}, 1, []string{"0", "0", "1*ab"}, []string{"0", "0", "1*b"}, []string{"0", "0", "1*b"}},
		{"3:0;1:0;5:0", 1, []string{"0", "1*1", "0"}, 1, []string{"0", "0", "1*ab"}, []string{"0", "0", "10006*a"}, []string{"0", "0", "10006*a"}},
		{"2:0;5:1*a3;8:0", 3, []string{"0", "1*a", "0"}, 3, []string{"0", "0", "1*b"}, []string{"0", "0", "1*a"}, []string{"0", "0", "1*a"}},
		// One Drop of each kind.
		{"2:0;5:1*a3", 2, []string{"1*1", "0"}, 3, []string{"0", "1*a"}, []string{"0", "1*1"}, []string{"0", "10006*1"}},
		{"4:0;3:0;1:0", 1, []string{"1*b", "0", "0"}, 2, []string{"0", "1*c", "0"}, []string{"10006*c", "0", "0"}, []string{"1*c", "0", "0"}},
		{"1:0;1:0;1:1*ab", 0, []string{"1*a", "1*b", "2*c"}, 1, []string{"0", "0", "1*1"}, []string{"0", "0", "10005*1"}, []string{"0", "0", "2*1"}},
		{"2:0;3:0", 0, []string{"3*a", "5*b"}, 1, []string{"0", "1*a"}, []string{"0", "10005*a"}, []string{"0", "2*a"}},
		{"2:0;3:0", 1, []string{"0", "1*a"}, 2, []string{"1*1", "0"}, []string{"0", "10006*1"}, []string{"0", "1*1"}},
	}
}

func TestBracketOf(t *testing.T) {
	for _, c := range bracketCases() {
		a := algebra(t, c.a)
		s, d := derivation(t, a, c.k, c.s...), derivation(t, a, c.m, c.d...)
		if got, want := bracket(t, a, s, d), derivation(t, a, c.k+c.m, c.want...); !sameDerivations(got, want) {
			t.Errorf("BracketOf(%q, %v, %v) = %d, %v, not %v", c.a, c.s, c.d, got.Drop, textsOf(t, a, got), c.want)
		}
		if got, want := bracket(t, a, d, s), derivation(t, a, c.k+c.m, c.turned...); !sameDerivations(got, want) {
			t.Errorf("BracketOf(%q, %v, %v) = %d, %v, not %v", c.a, c.d, c.s, got.Drop, textsOf(t, a, got), c.turned)
		}
	}
}

// twoDrops returns Drops from low on that add up to at most MaxWeight.
func twoDrops(r *rand.Rand, a impl.Algebra, low int64) (int64, int64) {
	for {
		if k, m := someDrop(r, a, low), someDrop(r, a, low); k+m <= impl.MaxWeight {
			return k, m
		}
	}
}

// parities counts results by whether two Drops are odd.
type parities map[[2]bool]int

func (p parities) add(k, m int64) {
	p[[2]bool{k%2 == 1, m%2 == 1}]++
}

// check asks for at least count results of each kind.
func (p parities) check(t *testing.T, count int) {
	t.Helper()
	for _, kind := range [][2]bool{{false, false}, {false, true}, {true, false}, {true, true}} {
		if p[kind] < count {
			t.Errorf("%d results for Drops that are odd: %v", p[kind], kind)
		}
	}
}

func TestRandomBrackets(t *testing.T) {
	r := rand.New(rand.NewSource(184))
	counts := parities{}
	for range 4000 {
		a := derivable(t, r)
		k, m := twoDrops(r, a, 0)
		s, d := randomDerivation(r, a, k), randomDerivation(r, a, m)
		got, code := impl.BracketOf(a, s, d)
		checkDerivation(t, "BracketOf", a, got, code, bracketByWords(leaderOf(a, s), leaderOf(a, d)))
		if !isNothing(got) {
			counts.add(k, m)
		}
	}
	counts.check(t, 100)
}

// TestBracketsTurnedRound checks that a bracket that is turned round changes its sign, unless both Drops are odd.
func TestBracketsTurnedRound(t *testing.T) {
	r := rand.New(rand.NewSource(185))
	counts := parities{}
	for range 3000 {
		a := derivable(t, r)
		k, m := twoDrops(r, a, 0)
		s, d := randomDerivation(r, a, k), randomDerivation(r, a, m)
		got := bracket(t, a, s, d)
		if turned := multiple(signed(k*m+1), bracket(t, a, d, s)); !sameDerivations(got, turned) {
			t.Fatalf("%v: the brackets of %v and %v are %v, and turned round %v", a, s, d, got, turned)
		}
		if !isNothing(got) {
			counts.add(k, m)
		}
	}
	counts.check(t, 100)
}

// TestBracketsWithThemselves checks that the bracket of an even derivation with itself is 0, and that of an odd one twice
// what it does twice.
func TestBracketsWithThemselves(t *testing.T) {
	r := rand.New(rand.NewSource(186))
	some := 0
	for range 2000 {
		a := derivable(t, r)
		k := someDrop(r, a, 0) % 7
		s := randomDerivation(r, a, k)
		got := bracket(t, a, s, s)
		for i, f := range got.Images {
			want := impl.Form{}
			if k%2 == 1 {
				want = scaled(t, a.Degrees, 2, led(t, a, s, s.Images[i]))
			}
			if !sameForms(f, want) {
				t.Fatalf("%v: the bracket of %v with itself is %v", a, s, got)
			}
		}
		if !isNothing(got) {
			some++
		}
	}
	if some < 50 {
		t.Errorf("only %d brackets are not 0", some)
	}
}

// TestBracketsOfThree checks Jacobi's rule with its signs.
func TestBracketsOfThree(t *testing.T) {
	r := rand.New(rand.NewSource(187))
	some := 0
	for range 4000 {
		a := derivable(t, r)
		k, m := twoDrops(r, a, 0)
		n := someDrop(r, a, 0)
		if k+m+n > impl.MaxWeight {
			continue
		}
		s, d, u := randomDerivation(r, a, k), randomDerivation(r, a, m), randomDerivation(r, a, n)
		left := bracket(t, a, s, bracket(t, a, d, u))
		first, second := bracket(t, a, bracket(t, a, s, d), u), bracket(t, a, d, bracket(t, a, s, u))
		if right := added(t, a, first, multiple(signed(k*m), second)); !sameDerivations(left, right) {
			t.Fatalf("%v: the brackets of %v, %v and %v are %v and %v", a, s, d, u, left, right)
		}
		if !isNothing(first) && !isNothing(second) {
			some++
		}
	}
	if some < 100 {
		t.Errorf("only %d times two brackets were not 0", some)
	}
}

// TestBracketsOfSums checks that brackets go along with sums on both sides.
func TestBracketsOfSums(t *testing.T) {
	r := rand.New(rand.NewSource(188))
	for range 1000 {
		a := derivable(t, r)
		k, m := twoDrops(r, a, 0)
		s, u, d := randomDerivation(r, a, k), randomDerivation(r, a, k), randomDerivation(r, a, m)
		left, right := bracket(t, a, added(t, a, s, u), d), added(t, a, bracket(t, a, s, d), bracket(t, a, u, d))
		if !sameDerivations(left, right) {
			t.Fatalf("%v: the bracket of the sum of %v and %v with %v is %v, not %v", a, s, u, d, left, right)
		}
		left, right = bracket(t, a, d, added(t, a, s, u)), added(t, a, bracket(t, a, d, s), bracket(t, a, d, u))
		if !sameDerivations(left, right) {
			t.Fatalf("%v: the bracket of %v with the sum of %v and %v is %v, not %v", a, d, s, u, left, right)
		}
	}
}

// differentialCase has the texts of an algebra, and of the images of a derivation and of its differential.
type differentialCase struct {
	derivationCase
	want []string
}

func differentialCases() []differentialCase {
	lie := "1:0;1:0;1:1*ab"
	return []differentialCase{
		{derivationCase{"", 1, nil}, nil},
		{derivationCase{"", 12, nil}, nil},
		{derivationCase{"12:0", 12, []string{"1*1"}}, []string{"0"}},
		// Even Drops: what d of a generator is led to is taken away.
		{derivationCase{"2:0;5:1*a3", 2, []string{"1*1", "0"}}, []string{"0", "10004*a2"}},
		{derivationCase{"2:0;5:1*a3", 2, []string{"5*1", "0"}}, []string{"0", "9992*a2"}},
		{derivationCase{"4:0;7:3*a2", 4, []string{"1*1", "0"}}, []string{"0", "10001*a"}},
		{derivationCase{"2:0;3:1*a2;5:0", 2, []string{"0", "0", "1*b"}}, []string{"0", "0", "1*a2"}},
		{derivationCase{"2:0;3:1*a2;6:0", 2, []string{"1*1", "0", "0"}}, []string{"0", "10005*a", "0"}},
		{derivationCase{"2:0;3:1*a2;5:0", 2, []string{"1*1", "0", "1*b"}}, []string{"0", "10005*a", "1*a2"}},
		{derivationCase{"1:1*b;2:0", 2, []string{"0", "1*1"}}, []string{"10006*1", "0"}},
		{derivationCase{"2:0;4:0;5:1*a3+2*ab", 2, []string{"1*1", "1*a", "0"}}, []string{"0", "0", "10002*a2+10005*b"}},
		// Odd Drops: it is added.
		{derivationCase{"2:0;5:1*a3", 1, []string{"0", "1*a2"}}, []string{"0", "0"}},
		{derivationCase{"2:0;5:1*a3", 3, []string{"0", "1*a"}}, []string{"0", "0"}},
		{derivationCase{"2:0;5:1*a3", 5, []string{"0", "1*1"}}, []string{"0", "0"}},
		{derivationCase{"2:0;3:1*a2;1:0", 1, []string{"1*c", "0", "0"}}, []string{"0", "2*ac", "0"}},
		{derivationCase{"2:0;3:1*a2;4:0", 1, []string{"0", "0", "1*b"}}, []string{"0", "0", "1*a2"}},
		{derivationCase{"2:0;3:1*a2;4:0;1:0", 1, []string{"1*d", "0", "1*b", "0"}}, []string{"0", "2*ad", "1*a2", "0"}},
		{derivationCase{lie, 1, []string{"1*1", "0", "0"}}, []string{"0", "0", "1*b"}},
		{derivationCase{lie, 1, []string{"0", "1*1", "0"}}, []string{"0", "0", "10006*a"}},
		{derivationCase{lie, 1, []string{"0", "0", "1*1"}}, []string{"0", "0", "0"}},
		{derivationCase{lie, 1, []string{"2*1", "3*1", "5*1"}}, []string{"0", "0", "10004*a+2*b"}},
		{derivationCase{"1:1*b;2:0", 1, []string{"0", "1*a"}}, []string{"1*a", "1*b"}},
		{derivationCase{"1:1*b;2:0", 1, []string{"1*1", "0"}}, []string{"0", "0"}},
		// Both parts, also those that cancel.
		{derivationCase{"1:0;2:1*ab;3:1*ac", 1, []string{"1*1", "0", "1*b"}}, []string{"0", "1*b", "1*c"}},
		{derivationCase{"1:0;2:1*ab;3:1*ac", 1, []string{"0", "0", "1*b"}}, []string{"0", "0", "0"}},
		{derivationCase{"2:0;3:1*a2;2:0;5:1*a2c", 2, []string{"0", "0", "1*1", "1*b"}}, []string{"0", "0", "0", "0"}},
		{derivationCase{"2:0;3:1*a2;2:0;5:1*a2c", 2, []string{"0", "0", "1*1", "3*b"}}, []string{"0", "0", "0", "2*a2"}},
		{derivationCase{"2:0;3:1*a2;3:0;6:1*a2c", 3, []string{"0", "0", "1*1", "10006*b"}}, []string{"0", "0", "0", "0"}},
		{derivationCase{"2:0;3:1*a2;3:0;6:1*a2c", 3, []string{"0", "0", "1*1", "3*b"}}, []string{"0", "0", "0", "4*a2"}},
	}
}

func TestDifferentialOfDerivation(t *testing.T) {
	for _, c := range differentialCases() {
		a, d := c.parts(t)
		if got, want := lowered(t, a, d), derivation(t, a, c.drop-1, c.want...); !sameDerivations(got, want) {
			t.Errorf("DifferentialOfDerivation(%v) = %d, %v, not %v", c.derivationCase, got.Drop, textsOf(t, a, got), c.want)
		}
	}
}

func TestRandomDifferentialsOfDerivations(t *testing.T) {
	r := rand.New(rand.NewSource(189))
	counts := map[int64]int{}
	for range 4000 {
		a := derivable(t, r)
		d := randomDerivation(r, a, someDrop(r, a, 1))
		got, code := impl.DifferentialOfDerivation(a, d)
		checkDerivation(t, "DifferentialOfDerivation", a, got, code, bracketByWords(leaderOfD(a), leaderOf(a, d)))
		if !isNothing(got) {
			counts[d.Drop%2]++
		}
	}
	if min(counts[0], counts[1]) < 200 {
		t.Errorf("differentials that are not 0, by Drop: %v", counts)
	}
}

// TestDifferentialsOnForms checks what the differential of a derivation makes of forms: d of what they are led to, less
// or plus what d of them is led to.
func TestDifferentialsOnForms(t *testing.T) {
	r := rand.New(rand.NewSource(190))
	some := 0
	for range 3000 {
		a := derivable(t, r)
		d := randomDerivation(r, a, someDrop(r, a, 1))
		f := randomForm(r, a.Degrees, 4, 2)
		first, second := differential(t, a, led(t, a, d, f)), led(t, a, d, differential(t, a, f))
		left, right := led(t, a, lowered(t, a, d), f), sumOf(t, a.Degrees, first, scaled(t, a.Degrees, signed(d.Drop+1), second))
		if !sameForms(left, right) {
			t.Fatalf("%v: the differential of %v leads %v to %v, not %v", a, d, f, left, right)
		}
		if len(first.Terms) > 0 && len(second.Terms) > 0 {
			some++
		}
	}
	if some < 100 {
		t.Errorf("only %d times both parts are not 0", some)
	}
}

// TestDifferentialsOfBrackets checks that the differential of a bracket is that of brackets of differentials, with a sign
// behind an odd derivation.
func TestDifferentialsOfBrackets(t *testing.T) {
	r := rand.New(rand.NewSource(191))
	counts := parities{}
	for range 10000 {
		a := derivable(t, r)
		k, m := twoDrops(r, a, 1)
		s, d := randomDerivation(r, a, k), randomDerivation(r, a, m)
		left := lowered(t, a, bracket(t, a, s, d))
		first, second := bracket(t, a, lowered(t, a, s), d), bracket(t, a, s, lowered(t, a, d))
		if right := added(t, a, first, multiple(signed(k), second)); !sameDerivations(left, right) {
			t.Fatalf("%v: the differential of the bracket of %v and %v is %v, not %v", a, s, d, left, right)
		}
		if !isNothing(left) && !isNothing(second) {
			counts.add(k, m)
		}
	}
	counts.check(t, 50)
}
