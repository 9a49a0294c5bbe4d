package tests

import (
	"math/rand"
	"slices"
	"strings"
	"testing"

	"loop.example/g01219/impl"
)

// elementaryCase has the elementary derivations of an algebra of a Drop, each with its images.
type elementaryCase struct {
	a    string
	drop int64
	want []string // the images, with blanks between them
}

func elementaryCases() []elementaryCase {
	return []elementaryCase{
		{"", 0, nil},
		{"", 12, nil},
		{"1:0", 0, []string{"1*a"}},
		{"1:0", 1, []string{"1*1"}},
		{"1:0", 2, nil},
		{"12:0", 12, []string{"1*1"}},
		{"12:0", 11, nil},
		{"12:0", 0, []string{"1*a"}},
		{"2:0;5:1*a3", 0, []string{"1*a 0", "0 1*b"}},
		{"2:0;5:1*a3", 1, []string{"0 1*a2"}},
		{"2:0;5:1*a3", 2, []string{"1*1 0"}},
		{"2:0;5:1*a3", 3, []string{"0 1*a"}},
		{"2:0;5:1*a3", 4, nil},
		{"2:0;5:1*a3", 5, []string{"0 1*1"}},
		{"2:0;5:1*a3", 6, nil},
		{"1:0;1:0;1:1*ab", 0, []string{"1*a 0 0", "1*b 0 0", "1*c 0 0", "0 1*a 0", "0 1*b 0", "0 1*c 0", "0 0 1*a", "0 0 1*b", "0 0 1*c"}},
		{"1:0;1:0;1:1*ab", 1, []string{"1*1 0 0", "0 1*1 0", "0 0 1*1"}},
		{"6:0;1:0;2:0;3:0", 0, []string{"1*a 0 0 0", "1*bcd 0 0 0", "1*c3 0 0 0", "0 1*b 0 0", "0 0 1*c 0", "0 0 0 1*bc", "0 0 0 1*d"}},
		{"6:0;1:0;2:0;3:0", 1, []string{"1*bc2 0 0 0", "1*cd 0 0 0", "0 1*1 0 0", "0 0 1*b 0", "0 0 0 1*c"}},
		{"6:0;1:0;2:0;3:0", 3, []string{"1*bc 0 0 0", "1*d 0 0 0", "0 0 0 1*1"}},
		{"6:0;1:0;2:0;3:0", 6, []string{"1*1 0 0 0"}},
	}
}

func TestElementaryDerivations(t *testing.T) {
	for _, c := range elementaryCases() {
		a := algebra(t, c.a)
		got, code := impl.ElementaryDerivations(a, c.drop)
		if code != impl.ErrNone || len(got) != len(c.want) {
			t.Errorf("ElementaryDerivations(%q, %d) = %v, %d", c.a, c.drop, got, code)
			continue
		}
		for i, images := range c.want {
			if want := derivation(t, a, c.drop, strings.Split(images, " ")...); !sameDerivations(got[i], want) {
				t.Errorf("the elementary derivation %d of %q and %d is %v, not %q", i, c.a, c.drop, got[i], images)
			}
		}
	}
}

// checkElementary compares the elementary derivations of each Drop with those by words, and returns how many there are.
func checkElementary(t *testing.T, a impl.Algebra) []int {
	t.Helper()
	var counts []int
	for drop := range int64(impl.MaxWeight + 1) {
		want := elementaryByWords(a, drop)
		counts = append(counts, len(want))
		got, code := impl.ElementaryDerivations(a, drop)
		if len(want) > impl.MaxSide {
			if len(got) != 0 || code != impl.ErrLimit {
				t.Fatalf("ElementaryDerivations(%v, %d) has %d of %d; code %d", a, drop, len(got), len(want), code)
			}
			continue
		}
		if code != impl.ErrNone || !slices.EqualFunc(got, want, sameDerivations) {
			t.Fatalf("ElementaryDerivations(%v, %d) = %v, %d", a, drop, got, code)
		}
		for _, d := range got {
			if !impl.IsDerivation(a, d) {
				t.Fatalf("%v is no derivation of %v", d, a)
			}
		}
	}
	return counts
}

// checkMatrices compares the matrices and homology ranks of each Drop with those by words; counts has the numbers of
// elementary derivations.
func checkMatrices(t *testing.T, a impl.Algebra, counts []int) {
	t.Helper()
	for drop := int64(1); drop <= impl.MaxWeight; drop++ {
		got, code := impl.MatrixOfDrop(a, drop)
		if max(counts[drop-1], counts[drop]) > impl.MaxSide {
			if len(got) != 0 || code != impl.ErrLimit {
				t.Fatalf("MatrixOfDrop(%v, %d) has %d rows; code %d", a, drop, len(got), code)
			}
			continue
		}
		if code != impl.ErrNone || !sameTables(got, matrixByWords(a, drop)) {
			t.Fatalf("MatrixOfDrop(%v, %d) = %v, %d, not %v", a, drop, got, code, matrixByWords(a, drop))
		}
	}
	for drop := int64(1); drop < impl.MaxWeight; drop++ {
		got, code := impl.HomologyRank(a, drop)
		if max(counts[drop-1], counts[drop], counts[drop+1]) > impl.MaxSide {
			if got != 0 || code != impl.ErrLimit {
				t.Fatalf("HomologyRank(%v, %d) = %d, %d", a, drop, got, code)
			}
			continue
		}
		if want := rankByWords(a, drop); code != impl.ErrNone || got != want {
			t.Fatalf("HomologyRank(%v, %d) = %d, %d, not %d", a, drop, got, code, want)
		}
	}
}

func TestSpacesOfAlgebras(t *testing.T) {
	for _, a := range goodAlgebras(t) {
		checkMatrices(t, a, checkElementary(t, a))
	}
	for _, text := range derivableTexts() {
		a := algebra(t, text)
		checkMatrices(t, a, checkElementary(t, a))
	}
}

func TestSpacesOfRandomAlgebras(t *testing.T) {
	r := rand.New(rand.NewSource(192))
	for range 250 {
		a := derivable(t, r)
		checkMatrices(t, a, checkElementary(t, a))
	}
	for range 30 {
		a := mixedAlgebra(t, r)
		checkMatrices(t, a, checkElementary(t, a))
	}
}

// TestSpacesAtTheLimit has 120 and 121 elementary derivations of single Drops, and fewer or more of their neighbours.
func TestSpacesAtTheLimit(t *testing.T) {
	met := map[[2]int]bool{}
	for _, x := range []struct {
		text   string
		beyond []int64 // the Drops with more than MaxSide elementary derivations
	}{
		{"1:0;1:0;1:0;2:0;2:0;2:0;5:0;9:0", nil},
		{"1:1*d;1:0;1:0;2:0;2:0;2:0;5:1*d3;9:0", nil},
		{"2:0;2:0;2:0;4:0;12:0;12:0", nil},
		{"2:0;2:0;2:0;2:0;2:0;5:1*a3;7:1*e4;9:0", nil},
		{"2:0;2:0;2:0;2:0;8:0;11:1*a6;11:1*abe", nil},
		{"1:0;2:0;2:0;2:0;8:0;9:0;12:0;12:0", []int64{0}},
		{"1:1*b;2:0;2:0;2:0;8:0;9:1*b5;12:0;12:0", []int64{0}},
		{"2:0;2:0;2:0;3:1*a2;4:0;12:0;12:0", []int64{0}},
		{"1:0;1:0;1:0;2:0;2:0;2:0;3:0;11:1*d6", []int64{0}},
		{"2:0;2:0;2:0;2:0;3:1*ab;4:0;4:0;12:0", []int64{0}},
		{"2:0;2:0;2:0;2:0;5:1*a3;7:0;9:0;11:1*a6", []int64{1}},
		{"2:0;2:0;2:0;2:0;3:0;6:0;11:1*ab5;11:0", []int64{1}},
		{"2:0;2:0;2:0;2:0;2:0;7:1*a4;9:1*b5;11:1*c6", []int64{1}},
		{"1:0;1:0;2:0;2:0;2:0;4:0;9:1*c5;12:0", []int64{0, 1}},
		{"1:1*b;2:0;2:0;2:0;2:0;4:0;4:0;12:0", []int64{0, 1}},
		{"2:0;2:0;2:0;2:0;3:0;8:0;10:0;12:0", []int64{0, 2}},
		{"2:0;2:0;2:0;2:0;5:1*b3;8:0;10:0;12:0", []int64{0, 2}},
		{"1:0;2:0;2:0;2:0;2:0;8:0;10:0;12:0", []int64{0, 1, 2}},
		{"2:0;2:0;2:0;2:0;2:0;2:0;2:0;11:1*a6", []int64{1, 3}},
		{"2:0;2:0;2:0;2:0;2:0;8:0;10:0;12:0", []int64{0, 2, 4}},
	} {
		a := algebra(t, x.text)
		counts := checkElementary(t, a)
		for drop, count := range counts {
			if (count > impl.MaxSide) != slices.Contains(x.beyond, int64(drop)) {
				t.Errorf("%q has %d elementary derivations of Drop %d", x.text, count, drop)
			}
			met[[2]int{drop, count}] = true
		}
		checkMatrices(t, a, counts)
	}
	for _, want := range [][2]int{{0, 120}, {0, 121}, {1, 120}, {1, 121}, {2, 120}, {2, 121}, {4, 121}} {
		if !met[want] {
			t.Errorf("no algebra has %d elementary derivations of Drop %d", want[1], want[0])
		}
	}
}

// TestMatricesAreDifferentials checks that the rows of a matrix add up to the differential of a sum of elementary
// derivations.
func TestMatricesAreDifferentials(t *testing.T) {
	r := rand.New(rand.NewSource(193))
	some := 0
	for range 400 {
		a := derivable(t, r)
		drop := someDrop(r, a, 1)
		matrix, code := impl.MatrixOfDrop(a, drop)
		if code != impl.ErrNone {
			continue
		}
		from, _ := impl.ElementaryDerivations(a, drop)
		to, _ := impl.ElementaryDerivations(a, drop-1)
		nothing := impl.Derivation{Drop: drop, Images: make([]impl.Form, len(a.Degrees))}
		left, right := nothing, nothing
		right.Drop--
		for i, k := range randomNumbers(r, len(from)) {
			left = added(t, a, left, multiple(k, from[i]))
			for j, x := range matrix[i] {
				right = added(t, a, right, multiple(k*x%impl.FieldPrime, to[j]))
			}
		}
		if got := lowered(t, a, left); !sameDerivations(got, right) {
			t.Fatalf("%v: the differential of %v is %v, not %v", a, left, got, right)
		}
		if !isNothing(right) {
			some++
		}
	}
	if some < 50 {
		t.Errorf("only %d differentials are not 0", some)
	}
}

// TestMatricesFollowEachOther checks that the product of two matrices that follow each other is 0.
func TestMatricesFollowEachOther(t *testing.T) {
	r := rand.New(rand.NewSource(194))
	some := 0
	for range 300 {
		a := derivable(t, r)
		for drop := int64(2); drop <= impl.MaxWeight; drop++ {
			x, first := impl.MatrixOfDrop(a, drop)
			y, second := impl.MatrixOfDrop(a, drop-1)
			if first != impl.ErrNone || second != impl.ErrNone || len(y) == 0 {
				continue
			}
			if product := timesTable(x, y, len(y[0])); !isZeroTable(product) {
				t.Fatalf("%v: the product of the matrices of the Drops %d and %d is %v", a, drop, drop-1, product)
			}
			if !isZeroTable(x) && !isZeroTable(y) {
				some++
			}
		}
	}
	if some < 50 {
		t.Errorf("only %d times both matrices are not 0", some)
	}
}

// rankCase has the homology ranks of an algebra; those of all other Drops up to 11 are 0.
type rankCase struct {
	text  string
	ranks map[int64]int64
}

// rankCases has those of spheres, projective spaces, tori, unitary groups and others.
func rankCases() []rankCase {
	return []rankCase{
		{"", nil},
		{"1:0", map[int64]int64{1: 1}},
		{"3:0", map[int64]int64{3: 1}},
		{"11:0", map[int64]int64{11: 1}},
		{"12:0", nil},
		{"2:0;3:1*a2", map[int64]int64{3: 1}},
		{"3:7*b2;2:0", map[int64]int64{3: 1}},
		{"4:0;7:1*a2", map[int64]int64{7: 1}},
		{"6:0;11:1*a2", map[int64]int64{11: 1}},
		{"2:0;5:1*a3", map[int64]int64{3: 1, 5: 1}},
		{"2:0;7:1*a4", map[int64]int64{3: 1, 5: 1, 7: 1}},
		{"2:0;11:3*a6", map[int64]int64{3: 1, 5: 1, 7: 1, 9: 1, 11: 1}},
		{"4:0;11:1*a3", map[int64]int64{7: 1, 11: 1}},
		{"2:0", map[int64]int64{2: 1}},
		{"2:0;5:0", map[int64]int64{1: 1, 2: 1, 3: 1, 5: 1}},
		{"1:0;1:0;1:0", map[int64]int64{1: 3}},
		{"1:0;1:0;1:0;1:0;1:0;1:0;1:0;1:0", map[int64]int64{1: 8}},
		{"1:0;3:0", map[int64]int64{1: 1, 2: 1, 3: 1}},
		{"1:0;3:0;5:0", map[int64]int64{1: 2, 2: 2, 3: 1, 4: 1, 5: 1}},
		{"1:0;1:0;1:1*ab", map[int64]int64{1: 1}},
		{"1:1*b;2:0", nil},
		{"4:5*b;5:0", nil},
		{"2:0;3:1*a2;3:0", map[int64]int64{1: 1, 3: 2}},
	}
}

func TestHomologyRanks(t *testing.T) {
	for _, c := range rankCases() {
		a := algebra(t, c.text)
		for drop := int64(1); drop < impl.MaxWeight; drop++ {
			if got, code := impl.HomologyRank(a, drop); got != c.ranks[drop] || code != impl.ErrNone {
				t.Errorf("HomologyRank(%q, %d) = %d, %d, not %d", c.text, drop, got, code, c.ranks[drop])
			}
		}
	}
}

// TestRanksWithoutDifferential checks that without a differential each elementary derivation counts.
func TestRanksWithoutDifferential(t *testing.T) {
	r := rand.New(rand.NewSource(195))
	for range 200 {
		a, _ := impl.FreeAlgebra(derivable(t, r).Degrees)
		for drop := int64(1); drop < impl.MaxWeight; drop++ {
			got, code := impl.HomologyRank(a, drop)
			if want := len(elementaryByWords(a, drop)); code == impl.ErrNone && got != int64(want) {
				t.Fatalf("HomologyRank(%v, %d) = %d, not %d", a, drop, got, want)
			}
		}
	}
}

// TestRanksWithOtherGenerators checks that homology ranks do not depend on the generators by which an algebra is told.
func TestRanksWithOtherGenerators(t *testing.T) {
	r := rand.New(rand.NewSource(196))
	for range 100 {
		a := algebra(t, derivableTexts()[r.Intn(len(derivableTexts()))])
		b := shuffled(r, a)
		for range 3 {
			i := r.Intn(len(b.Degrees))
			b = changedByWords(b, i, randomChange(r, b, i)).b
		}
		for drop := int64(1); drop < impl.MaxWeight; drop++ {
			x, first := impl.HomologyRank(a, drop)
			y, second := impl.HomologyRank(b, drop)
			if x != y || first != second {
				t.Fatalf("HomologyRank of %v, %v and %d = %d, %d and %d, %d", a, b, drop, x, first, y, second)
			}
		}
	}
}

func TestConstantsOf(t *testing.T) {
	for _, c := range []struct {
		text string
		want [][]int64
	}{
		{"", nil},
		{"1:0", nil},
		{"2:0;3:1*a2", [][]int64{{1, 0, 0, 1}}},
		{"3:7*b2;2:0", [][]int64{{0, 1, 1, 7}}},
		{"2:0;5:1*a3", nil},
		{"4:5*b;5:0", nil},
		{"1:0;1:0;1:5*ab", [][]int64{{2, 0, 1, 5}}},
		{"1:1*bc;1:1*ac;1:1*ab", [][]int64{{0, 1, 2, 1}, {1, 0, 2, 1}, {2, 0, 1, 1}}},
		{"1:0;1:0;1:1*ab;1:3*ac;1:1*ad", [][]int64{{2, 0, 1, 1}, {3, 0, 2, 3}, {4, 0, 3, 1}}},
		{"2:0;4:0;7:1*a4+5*a2b+3*b2;11:1*b3", [][]int64{{2, 1, 1, 3}}},
		{"1:0;1:0;2:0;3:1*abc+10006*c2", [][]int64{{3, 2, 2, 10006}}},
		{"1:0;2:1*ac;2:1*ab+1*ac", [][]int64{{1, 0, 2, 1}, {2, 0, 1, 1}, {2, 0, 2, 1}}},
		{"2:0;2:0;2:0;3:1*a2+2*ab+3*ac+4*b2+5*bc+6*c2", [][]int64{{3, 0, 0, 1}, {3, 0, 1, 2}, {3, 0, 2, 3}, {3, 1, 1, 4}, {3, 1, 2, 5}, {3, 2, 2, 6}}},
		{"3:1*b2+1*c;2:0;4:0;3:2*b2", [][]int64{{0, 1, 1, 1}, {3, 1, 1, 2}}},
		{"2:0;2:0;3:1*a2;3:1*ab;3:1*b2;4:10006*ad+1*bc", [][]int64{{2, 0, 0, 1}, {3, 0, 1, 1}, {4, 1, 1, 1}, {5, 0, 3, 10006}, {5, 1, 2, 1}}},
	} {
		if got, code := impl.ConstantsOf(algebra(t, c.text)); code != impl.ErrNone || !sameTables(got, c.want) {
			t.Errorf("ConstantsOf(%q) = %v, %d, not %v", c.text, got, code, c.want)
		}
	}
	last := algebra(t, "1:0;2:0;2:0;2:0;2:0;2:0;6:0;7:2*f4+3*fg")
	if got, code := impl.ConstantsOf(last); code != impl.ErrNone || !sameTables(got, [][]int64{{7, 5, 6, 3}}) {
		t.Errorf("ConstantsOf(%v) = %v, %d", last, got, code)
	}
}

func TestRandomConstants(t *testing.T) {
	r := rand.New(rand.NewSource(197))
	equal, different := 0, 0
	for range 2000 {
		a := derivable(t, r)
		got, code := impl.ConstantsOf(a)
		if code != impl.ErrNone || !sameTables(got, constantsByWords(a)) || !slices.IsSortedFunc(got, slices.Compare) {
			t.Fatalf("ConstantsOf(%v) = %v, %d", a, got, code)
		}
		for _, list := range got {
			if list[1] == list[2] {
				equal++
			} else {
				different++
			}
		}
	}
	if equal < 100 || different < 100 {
		t.Errorf("%d constants have two equal generators, and %d different ones", equal, different)
	}
}
