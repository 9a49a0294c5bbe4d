package tests

import (
	"math/rand"
	"slices"
	"testing"

	"loop.example/g01219/impl"
)

func TestKnownTriples(t *testing.T) {
	for _, c := range knownTriples() {
		x := c.triad(t)
		found := checkTriple(t, x)
		if (found.code == impl.ErrNone) != (c.form != "") {
			t.Errorf("%v has the code %d", c, found.code)
		}
		if c.form == "" || found.code != impl.ErrNone {
			continue
		}
		want := parseAll(t, x.a.Degrees, []string{c.u, c.v})
		if !sameFormLists(found.parts, want) || !sameForms(found.form, parse(t, x.a.Degrees, c.form)) {
			t.Errorf("%v: the parts %v make %v", c, found.parts, found.form)
		}
		if !sameTables(found.rows, c.rows) || !slices.Equal(found.class, c.class) {
			t.Errorf("%v: the indeterminacy is %v, and the class %v", c, found.rows, found.class)
		}
	}
}

// tripleCounts counts what triple products there are, so that a test may ask for enough of each sort.
type tripleCounts struct {
	none, some, both, signs, numbers, indeterminate, whole, zeroForms int
}

func (n *tripleCounts) add(c triad, found triple) {
	if found.code != impl.ErrNone {
		n.none++
		return
	}
	p, q, r := c.degrees()
	for _, sort := range []struct {
		count *int
		yes   bool
	}{
		{&n.some, !isZeroList(found.class)},
		{&n.both, len(found.parts[0].Terms) > 0 && len(found.parts[1].Terms) > 0},
		{&n.signs, !isZeroList(found.class) && p%2 == 1 && q%2 == 0},
		{&n.numbers, min(p, q, r) == 0},
		{&n.indeterminate, len(found.rows) > 0 && !isZeroList(found.class)},
		{&n.whole, len(found.rows) > 0 && len(found.rows) == len(found.class)},
		{&n.zeroForms, len(found.form.Terms) == 0 && len(found.class) > 0},
	} {
		if sort.yes {
			*sort.count++
		}
	}
}

// TestTriplesByWords compares triple products with their definition.
func TestTriplesByWords(t *testing.T) {
	r := rand.New(rand.NewSource(140))
	var n tripleCounts
	for range 6000 {
		c := randomTriad(t, r, 11)
		n.add(c, checkTriple(t, c))
	}
	if min(n.none, n.some, n.both, n.whole, n.zeroForms) < 100 || min(n.signs, n.numbers, n.indeterminate) < 20 {
		t.Errorf("too few triple products of some sort: %+v", n)
	}
}
