package tests

import (
	"math"
	"math/rand"
	"testing"

	"loop.example/g01219/impl"
)

// callsUpTo has the functions that are told degrees, with n as the greatest one, or as the sum of two. They return
// whether the result is the zero value.
func callsUpTo() []degreeCall {
	return []degreeCall{
		{"ProductTable", func(a impl.Algebra, n int64) (bool, int64) {
			table, code := impl.ProductTable(a, n, 0)
			return len(table) == 0, code
		}},
		{"ProductTable turned round", func(a impl.Algebra, n int64) (bool, int64) {
			table, code := impl.ProductTable(a, 0, n)
			return len(table) == 0, code
		}},
		{"HasDuality", func(a impl.Algebra, n int64) (bool, int64) {
			yes, code := impl.HasDuality(a, n)
			return !yes, code
		}},
		callOfFirstTriple(),
	}
}

func callOfFirstTriple() degreeCall {
	return degreeCall{"FirstTriple", func(a impl.Algebra, n int64) (bool, int64) {
		list, code := impl.FirstTriple(a, n)
		return len(list) == 0, code
	}}
}

// orders returns three forms in all orders, without asking whether two of them are the same.
func orders(x, y, z impl.Form) [][3]impl.Form {
	return [][3]impl.Form{{x, y, z}, {x, z, y}, {y, x, z}, {y, z, x}, {z, x, y}, {z, y, x}}
}

// checkTripleCode checks the code of all four functions, for three forms in all orders.
func checkTripleCode(t *testing.T, a impl.Algebra, x, y, z impl.Form, want int64) {
	t.Helper()
	for _, list := range orders(x, y, z) {
		if found := tripleOf(t, triad{a, list[0], list[1], list[2]}); found.code != want {
			t.Errorf("the triple product of %v in %v has the code %d, not %d", list, a, found.code, want)
		}
	}
}

func TestInvalidTriples(t *testing.T) {
	for _, a := range badAlgebras(t) {
		for _, c := range callsUpTo() {
			for _, n := range []int64{0, 2, 14, -1, 15, math.MinInt64, math.MaxInt64} {
				checkCode(t, c, a, n, impl.ErrInvalid)
			}
		}
		if table, code := impl.ProductTable(a, math.MaxInt64, math.MaxInt64); len(table) != 0 || code != impl.ErrInvalid {
			t.Errorf("ProductTable(%v, ..) = %v, %d", a, table, code)
		}
		for _, f := range []impl.Form{{}, formOf(term(1)), formOf(term(1, 20, 20)), formOf(term(0))} {
			checkTripleCode(t, a, f, f, f, impl.ErrInvalid)
		}
	}
	a := algebra(t, "1:1*b;2:0")
	closed, great := parse(t, a.Degrees, "1*b"), parse(t, a.Degrees, "1*b20")
	mixed, open := parse(t, a.Degrees, "1*b+1*1"), parse(t, a.Degrees, "1*a")
	for _, f := range badForms() {
		checkTripleCode(t, a, f, closed, closed, impl.ErrInvalid)
		checkTripleCode(t, a, f, great, great, impl.ErrInvalid)
		checkTripleCode(t, a, f, mixed, impl.Form{}, impl.ErrInvalid)
		checkTripleCode(t, a, f, open, f, impl.ErrInvalid)
	}
	checkTripleCode(t, algebra(t, "2:0;2:0"), grid(401, 1), closed, closed, impl.ErrInvalid)
	checkTripleCode(t, impl.Algebra{}, formOf(term(1, 1)), formOf(term(1)), formOf(term(1)), impl.ErrInvalid)
}

// TestStatesOfTriples has forms that are not homogeneous, not closed, or 0, beside closed forms of all sorts, of which
// some have degrees beyond all limits.
func TestStatesOfTriples(t *testing.T) {
	const big = "2:0;2:0;2:0;2:0;2:0;2:0;2:0;3:1*a2" // more than 120 monomials of the degree 8
	for _, c := range []struct {
		algebra string
		wrong   []string
		closed  []string
	}{
		{"2:0;3:1*a2", []string{"0", "1*b", "1*ab", "1*a+1*1", "1*a2+1*a", "1*a20b", "1*ab+1*b"}, []string{"1*a", "5*1", "1*a2", "1*a20"}},
		{heisenberg, []string{"0", "1*c", "1*a+1*c", "1*a+1*bc", "3*a+1*1"}, []string{"1*a", "7*b", "1*abc", "2*1", "1*ab"}},
		{big, []string{"0", "1*h", "1*a20h", "1*a4+1*a", "1*a20+1*a19"}, []string{"1*a", "1*a4", "1*a20", "1*1"}},
		{"1:1*b;2:0", []string{"0", "1*a", "1*ab", "1*a+1*b", "1*b2+1*b"}, []string{"1*b", "1*1", "1*b20"}},
		{"", []string{"0"}, []string{"1*1", "10006*1"}},
	} {
		a := algebra(t, c.algebra)
		wrong, closed := parseAll(t, a.Degrees, c.wrong), parseAll(t, a.Degrees, c.closed)
		for _, f := range wrong {
			for _, g := range closed {
				for _, h := range append(closed, wrong...) {
					checkTripleCode(t, a, f, g, h, impl.ErrState)
				}
			}
		}
	}
}

func TestRangesUpTo(t *testing.T) {
	texts := []string{"", "1:0", "2:0;3:1*a2", "2:0;2:0;2:0;2:0;2:0;2:0;2:0;2:0", heisenberg}
	for _, c := range narrow() {
		texts = append(texts, c.text)
	}
	for _, text := range texts {
		a := algebra(t, text)
		for _, c := range callsUpTo() {
			for _, n := range []int64{-1, 15, 16, 21, 41, math.MinInt64, math.MaxInt64} {
				checkCode(t, c, a, n, impl.ErrRange)
			}
		}
		for _, list := range [][2]int64{
			{7, 8}, {8, 7}, {14, 1}, {1, 14}, {-1, 15}, {15, -1}, {-1, 2}, {2, -1}, {16, -2}, {-1, -1},
			{math.MaxInt64, 1}, {1, math.MaxInt64}, {math.MaxInt64, math.MaxInt64}, {math.MinInt64, math.MinInt64},
			{math.MaxInt64, math.MinInt64}, {math.MinInt64, math.MaxInt64}, {math.MinInt64, 14}, {math.MaxInt64 - 5, 10},
		} {
			if table, code := impl.ProductTable(a, list[0], list[1]); len(table) != 0 || code != impl.ErrRange {
				t.Errorf("ProductTable(%q, %v) = %v, %d", text, list, table, code)
			}
		}
	}
	for _, text := range []string{"", "1:0", "2:0;3:1*a2", "12:0", heisenberg} {
		a := algebra(t, text)
		for n := range int64(impl.MaxTriple + 1) {
			for _, c := range callsUpTo()[:3] {
				if _, code := c.call(a, n); code != impl.ErrNone {
					t.Errorf("%s(%q, %d): code %d", c.name, text, n, code)
				}
			}
			if table, code := impl.ProductTable(a, n, impl.MaxTriple-n); code != impl.ErrNone {
				t.Errorf("ProductTable(%q, %d, %d) = %v, %d", text, n, impl.MaxTriple-n, table, code)
			}
		}
	}
}

// TestRangesOfTriples meets MaxTriple with the degree of a triple product, and exceeds it by one.
func TestRangesOfTriples(t *testing.T) {
	for _, c := range []struct {
		algebra, x, y, z string
		want             int64
	}{
		{"5:0;5:0;9:1*ab", "1*a", "1*a", "1*b", impl.ErrNone},
		{"5:0;6:0;10:1*ab", "1*a", "1*a", "1*a", impl.ErrNone},
		{"5:0;6:0;10:1*ab", "1*a", "1*a", "1*b", impl.ErrRange},
		{"5:0;6:0;10:1*ab", "1*b", "1*b", "1*b", impl.ErrRange},
		{"2:0;3:1*a2", "1*a2", "1*a2", "1*a3", impl.ErrNone},
		{"2:0;3:1*a2", "1*a2", "1*a3", "1*a3", impl.ErrRange},
		{"2:0;3:1*a2", "1*a2", "1*a20", "1*a20", impl.ErrRange},
		{"2:0;3:1*a2", "1*1", "1*a3", "1*a4", impl.ErrNone},
		{"2:0;3:1*a2", "1*1", "1*a4", "1*a4", impl.ErrRange},
		{"2:0;3:1*a2;3:0", "1*1", "2*1", "1*a6c", impl.ErrNotFound},
		{"2:0;3:1*a2", "1*1", "2*1", "1*a8", impl.ErrRange},
		{"2:0;3:1*a2", "1*a20", "1*a20", "1*a20", impl.ErrRange},
		{"12:0;12:0", "1*a20b20", "1*a20b20", "1*1", impl.ErrRange},
		{"7:0;8:0", "1*a", "1*a", "1*1", impl.ErrNotFound},
		{"7:0;8:0", "1*a", "1*b", "1*1", impl.ErrNotFound},
		{"7:0;8:0", "1*b", "1*b", "1*1", impl.ErrRange},
	} {
		a := algebra(t, c.algebra)
		forms := parseAll(t, a.Degrees, []string{c.x, c.y, c.z})
		// Some orders of forms of which only few products are boundaries have no triple product.
		for _, list := range orders(forms[0], forms[1], forms[2]) {
			found := checkedOrRange(t, triad{a, list[0], list[1], list[2]})
			if (found.code == impl.ErrRange) != (c.want == impl.ErrRange) {
				t.Errorf("the triple product of %v in %q has the code %d", list, c.algebra, found.code)
			}
		}
		if found := tripleOf(t, triad{a, forms[0], forms[1], forms[2]}); found.code != c.want {
			t.Errorf("the triple product of %v has the code %d", c, found.code)
		}
	}
}

// checkedOrRange returns the triple product of a triad, which it checks if its degree is in its range.
func checkedOrRange(t *testing.T, c triad) triple {
	t.Helper()
	if c.degree() > impl.MaxTriple {
		return tripleOf(t, c)
	}
	return checkTriple(t, c)
}

// narrow has texts of algebras with 121 monomials of a single degree up to MaxTriple + 1, and of no other one of
// these more than 120.
func narrow() []struct {
	text string
	peak int64
} {
	return []struct {
		text string
		peak int64
	}{
		{"2:0;2:0;2:0;2:0;7:0;7:0", 14},
		{"2:0;2:0;2:0;2:0;7:1*a4;7:0", 14},
		{"2:0;2:0;2:0;4:0;4:0;7:0;7:1*d2", 14},
		{"1:0;1:0;2:0;2:0;2:0;3:0", 15},
		{"1:0;1:0;2:0;2:0;2:1*ac;3:1*c2", 15},
		{"2:0;2:0;2:0;3:1*a2;4:0;5:0;5:0", 15},
	}
}

// TestLimitsUpTo exceeds MaxSide by one in a single degree.
func TestLimitsUpTo(t *testing.T) {
	for _, x := range narrow() {
		a := algebra(t, x.text)
		for n := range int64(impl.MaxTriple + 2) {
			if count := len(allMonomials(a.Degrees, n)); n == x.peak && count != 121 || n != x.peak && count > 120 {
				t.Fatalf("%v has %d monomials of the degree %d", a.Degrees, count, n)
			}
		}
		for n := range int64(impl.MaxTriple + 1) {
			for _, c := range callsUpTo() {
				zero, code := c.call(a, n)
				if beyond := n >= x.peak-1; beyond && (!zero || code != impl.ErrLimit) || !beyond && code == impl.ErrLimit {
					t.Errorf("%s(%q, %d): code %d", c.name, x.text, n, code)
				}
			}
			for k := range n + 1 {
				table, code := impl.ProductTable(a, k, n-k)
				if beyond := n >= x.peak-1; beyond && (len(table) != 0 || code != impl.ErrLimit) || !beyond && code != impl.ErrNone {
					t.Errorf("ProductTable(%q, %d, %d) has %d rows; code %d", x.text, k, n-k, len(table), code)
				}
			}
		}
	}
}

// TestLimitsThatAreMetUpTo has 120 monomials of one or more degrees up to MaxTriple + 1, and never more.
func TestLimitsThatAreMetUpTo(t *testing.T) {
	for _, text := range []string{
		"2:0;2:0;2:0;2:0",
		"1:0;2:0;2:0;2:0;2:0",
		"2:0;4:0;4:0;4:0;4:0;4:0;4:0;4:0",
		"1:0;2:0;2:0;2:1*ab;3:1*b2;4:0",
		"1:0;2:0;2:0;2:0;3:1*b2;5:0;7:0",
	} {
		a := algebra(t, text)
		if most := mostMonomials(a, impl.MaxTriple+1); most != 120 {
			t.Fatalf("%q has up to %d monomials of one degree", text, most)
		}
		for n := range int64(impl.MaxTriple + 1) {
			for _, c := range callsUpTo()[:3] {
				if _, code := c.call(a, n); code != impl.ErrNone {
					t.Errorf("%s(%q, %d): code %d", c.name, text, n, code)
				}
			}
			if list, code := impl.FirstTriple(a, n); code != impl.ErrNone && code != impl.ErrNotFound {
				t.Errorf("FirstTriple(%q, %d) = %v, %d", text, n, list, code)
			}
		}
	}
	a := algebra(t, "2:0;2:0;2:0;2:0;2:0;2:0;2:0;2:0") // 36 monomials of the degree 4, 120 of 6, 330 of 8
	if table, code := impl.ProductTable(a, 2, 4); len(table) != 8*36 || code != impl.ErrNone {
		t.Errorf("ProductTable(2, 4) has %d rows; code %d", len(table), code)
	}
	if table, code := impl.ProductTable(a, 3, 4); len(table) != 0 || code != impl.ErrLimit {
		t.Errorf("ProductTable(3, 4) has %d rows; code %d", len(table), code)
	}
}

// TestLimitsOfTriples has triple products whose degree is just low enough, or by one too high, for MaxSide. All
// monomials up to one degree more than that of the product count, and no others.
func TestLimitsOfTriples(t *testing.T) {
	for _, c := range []struct {
		algebra, x, y, z string
		want             int64
	}{
		{"2:0;2:0;2:0;2:0;7:1*a4;7:0", "1*a4", "1*a", "1*b", impl.ErrNotFound},
		{"2:0;2:0;2:0;2:0;7:1*a4;7:0", "1*a4", "1*1", "1*a3", impl.ErrLimit},
		{"2:0;2:0;2:0;2:0;7:1*a4;7:0", "1*a4", "1*a2", "1*a", impl.ErrLimit},
		{"2:0;2:0;2:0;2:0;7:1*a4;7:0", "1*a2", "1*a2", "1*a2", impl.ErrNone},
		{"2:0;2:0;2:0;2:0;7:1*a4;7:0", "1*a", "1*b", "1*c5", impl.ErrLimit},
		{"2:0;2:0;2:0;2:0;7:1*a4;7:0", "1*f", "1*f", "1*b", impl.ErrRange},
		{"2:0;2:0;2:0;2:0;7:1*a4;7:0", "1*f", "1*f", "1*1", impl.ErrLimit},
		{"2:0;2:0;2:0;2:0;7:1*a4;7:0", "1*f", "1*b", "1*c3", impl.ErrLimit},
		{"2:0;2:0;2:0;2:0;7:1*a4;7:0", "1*f", "1*b", "1*c2", impl.ErrNotFound},
		{"1:0;1:0;2:0;2:0;2:1*ac;3:1*c2", "1*a", "1*a", "1*ac6", impl.ErrLimit},
		{"1:0;1:0;2:0;2:0;2:1*ac;3:1*c2", "1*a", "1*a", "1*c6", impl.ErrNone},
		{"1:0;1:0;2:0;2:0;2:1*ac;3:1*c2", "1*a", "1*ac6", "1*1", impl.ErrNone},
		{"1:0;1:0;2:0;2:0;2:1*ac;3:1*c2", "1*b", "1*ac6", "1*1", impl.ErrNone},
		{"1:0;1:0;2:0;2:0;2:1*ac;3:1*c2", "1*a", "1*c7", "1*1", impl.ErrLimit},
		{"1:0;1:0;2:0;2:0;2:1*ac;3:1*c2", "1*1", "1*c7", "1*1", impl.ErrNone},
		{"1:0;1:0;2:0;2:0;2:1*ac;3:1*c2", "1*1", "1*ac7", "1*1", impl.ErrLimit},
		{"1:0;1:0;2:0;2:0;2:1*ac;3:1*c2", "1*1", "1*1", "1*ac7", impl.ErrLimit},
		{"1:0;1:0;2:0;2:0;2:1*ac;3:1*c2", "1*1", "1*1", "1*c7", impl.ErrNotFound},
		{"1:0;2:0;2:0;2:0;2:0", "1*a", "1*a", "1*ab6", impl.ErrNone},
		{"1:0;2:0;2:0;2:0;2:0", "1*a", "1*b2", "1*b5", impl.ErrNotFound},
		{"1:0;2:0;2:0;2:0;2:0", "1*b", "1*b2", "1*b5", impl.ErrRange},
	} {
		a := algebra(t, c.algebra)
		x := triad{a, parse(t, a.Degrees, c.x), parse(t, a.Degrees, c.y), parse(t, a.Degrees, c.z)}
		if found := tripleOf(t, x); found.code != c.want {
			t.Errorf("the triple product of %v has the code %d", c, found.code)
		}
		if c.want == impl.ErrNone || c.want == impl.ErrNotFound {
			checkTriple(t, x)
		}
	}
}

// TestAnyTriple calls everything with what is often invalid: nothing panics, and results beside errors are zero
// values.
func TestAnyTriple(t *testing.T) {
	r := rand.New(rand.NewSource(144))
	codes := map[int64]int{}
	for range 4000 {
		a := anyAlgebra(t, r)
		var forms [3]impl.Form
		good := impl.IsAlgebra(a)
		for k := range forms {
			m := anyMonomial(r)
			forms[k] = []impl.Form{formOf(term(r.Int63n(3)-1, m[:]...)), formOf(term(1)), {}, {}}[r.Intn(4)]
			if n := r.Int63n(14); impl.IsAlgebra(a) && len(allMonomials(a.Degrees, n+1)) < 50 && r.Intn(4) > 0 {
				forms[k] = randomClosed(r, a, n)
			}
			good = good && impl.IsForm(a.Degrees, forms[k])
		}
		found := tripleOf(t, triad{a, forms[0], forms[1], forms[2]})
		if (found.code == impl.ErrInvalid) == good {
			t.Fatalf("the triple product of %v in %v has the code %d", forms, a, found.code)
		}
		codes[found.code]++
		n := []int64{r.Int63n(18) - 2, math.MinInt64, math.MaxInt64}[min(2, r.Intn(10)/8)]
		for _, c := range callsUpTo() {
			zero, code := c.call(a, n)
			if code < 0 || code > impl.ErrNotFound || code != impl.ErrNone && !zero || (code == impl.ErrInvalid) == impl.IsAlgebra(a) {
				t.Fatalf("%s(%v, %d): code %d", c.name, a, n, code)
			}
		}
		impl.ProductTable(a, n, r.Int63n(18)-2)
	}
	for _, code := range []int64{impl.ErrNone, impl.ErrInvalid, impl.ErrRange, impl.ErrNotFound, impl.ErrState} {
		if codes[code] < 20 {
			t.Errorf("the code %d was met %d times", code, codes[code])
		}
	}
}
