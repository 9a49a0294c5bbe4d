package tests

import (
	"math/rand"
	"slices"
	"testing"

	"loop.example/g01219/impl"
)

// pairByWords returns the least i for which d x(i) has a linear term, the least j for it, and whether there
// are any.
func pairByWords(a impl.Algebra) (int, int, bool) {
	for i, f := range a.Images {
		for j := range a.Degrees {
			if occurs(monomialOf([]int{j}), f) {
				return i, j, true
			}
		}
	}
	return 0, 0, false
}

// without returns the numbers of count generators without some of them.
func without(count int, left ...int) []int {
	var list []int
	for i := range count {
		if !slices.Contains(left, i) {
			list = append(list, i)
		}
	}
	return list
}

// ledTo returns the mapping that leads the generators of a list to those of b, in this order, and all others
// to 0; b has their degrees, and no images yet.
func ledTo(a impl.Algebra, list []int) mapping {
	x := mapping{a: a, m: make([]impl.Form, len(a.Degrees))}
	for place, i := range list {
		x.b.Degrees = append(x.b.Degrees, a.Degrees[i])
		x.m[i] = generator(place, 1)
	}
	return x
}

// withImages returns the mapping with the images of the generators of a list in b.
func (x mapping) withImages(list []int) mapping {
	for _, i := range list {
		x.b.Images = append(x.b.Images, x.imageByWords(x.a.Images[i]))
	}
	return x
}

// contractedByWords returns the projection of the contraction of the first pair of an algebra.
func contractedByWords(a impl.Algebra) mapping {
	i, j, _ := pairByWords(a)
	rest := without(len(a.Degrees), i, j)
	x := ledTo(a, rest)
	factor := a.Images[i].Terms[slices.IndexFunc(a.Images[i].Terms, func(y impl.Term) bool { return y.Monomial == monomialOf([]int{j}) })].Factor
	w := minus(a.Images[i], generator(j, factor))
	x.m[j] = combination([]int64{impl.FieldPrime - inverse(factor)}, []impl.Form{x.imageByWords(w)})
	return x.withImages(rest)
}

// replacedByWords returns the mapping that leads x(i) to a form, and all other generators to themselves. In its
// algebra b, the image of the generator number i is that to which image is led.
func replacedByWords(a impl.Algebra, i int, by impl.Form, image impl.Form) mapping {
	all := without(len(a.Degrees))
	x := ledTo(a, all)
	x.m[i] = by
	x.a.Images = slices.Clone(a.Images)
	x.a.Images[i] = image
	x = x.withImages(all)
	x.a.Images[i] = a.Images[i]
	return x
}

// changedByWords returns the mapping from an algebra to that with the generator i changed by f.
func changedByWords(a impl.Algebra, i int, f impl.Form) mapping {
	sum := combination([]int64{1, 1}, []impl.Form{a.Images[i], differentialByWords(a, f)})
	return replacedByWords(a, i, minus(generator(i, 1), f), sum)
}

// randomChange returns a form by which the generator i may be changed, mostly with few terms.
func randomChange(r *rand.Rand, a impl.Algebra, i int) impl.Form {
	var f impl.Form
	few := r.Intn(4)
	for _, x := range randomOfDegree(r, a, a.Degrees[i]).Terms {
		if x.Monomial[i] == 0 && r.Intn(4) >= few {
			f.Terms = append(f.Terms, x)
		}
	}
	return f
}

// entangled returns an algebra with some pairs of generators that cancel, each of which may occur in the
// images of all others, and which has at most most monomials of each of the degrees 0 to top + 1.
func entangled(t *testing.T, r *rand.Rand, top int64, most int) impl.Algebra {
	t.Helper()
	for {
		pairs := 1 + r.Intn(4)
		a := randomAlgebra(t, r, 8-2*pairs)
		for range pairs {
			n := 1 + r.Int63n(4)
			pair := impl.Algebra{Degrees: []int64{n, n + 1}, Images: []impl.Form{generator(1, 1+r.Int63n(impl.FieldPrime-1)), {}}}
			a, _ = impl.ProductOfAlgebras(a, pair)
		}
		if mostMonomials(a, top+1) > most {
			continue
		}
		a = shuffled(r, a)
		for range 2 * pairs {
			i := r.Intn(len(a.Degrees))
			a = changedByWords(a, i, randomChange(r, a, i)).b
		}
		if impl.IsAlgebra(a) {
			return a
		}
	}
}

// mixedAlgebra returns an algebra with generators, with pairs that cancel in about half of the cases.
func mixedAlgebra(t *testing.T, r *rand.Rand) impl.Algebra {
	t.Helper()
	for r.Intn(2) == 0 {
		if a := randomAlgebra(t, r, 8); len(a.Degrees) > 0 {
			return a
		}
	}
	return entangled(t, r, 6, 100)
}

// reduction has the text of an algebra, its first pair, the contracted algebra with the projection, and the
// reduced algebra with the projection.
type reduction struct {
	a           string
	pair        []int64
	contracted  string
	first       []string
	reduced     string
	projections []string
}

// knownReductions has algebras with one pair and with several of them: with the second generator ahead of the
// first one, with other factors and terms, with generators of pairs in other images, with several linear
// terms in one image, and some that end without generators.
func knownReductions() []reduction {
	return []reduction{
		{"1:1*b;2:0", []int64{0, 1}, "", []string{"0", "0"}, "", []string{"0", "0"}},
		{"2:0;1:1*a", []int64{1, 0}, "", []string{"0", "0"}, "", []string{"0", "0"}},
		{"12:0;11:10006*a", []int64{1, 0}, "", []string{"0", "0"}, "", []string{"0", "0"}},
		{"4:5*b;5:0;2:0", []int64{0, 1}, "2:0", []string{"0", "0", "1*a"}, "2:0", []string{"0", "0", "1*a"}},
		{"2:0;5:0;4:5*b", []int64{2, 1}, "2:0", []string{"1*a", "0", "0"}, "2:0", []string{"1*a", "0", "0"}},
		{"2:0;3:1*a2+1*c;4:0", []int64{1, 2}, "2:0", []string{"1*a", "0", "10006*a2"}, "2:0", []string{"1*a", "0", "10006*a2"}},
		{"2:0;3:3*a2+7*c;4:0", []int64{1, 2}, "2:0", []string{"1*a", "0", "8577*a2"}, "2:0", []string{"1*a", "0", "8577*a2"}},
		{"2:0;3:1*a2+1*c;4:0;7:1*c2", []int64{1, 2}, "2:0;7:1*a4", []string{"1*a", "0", "10006*a2", "1*b"}, "2:0;7:1*a4", []string{"1*a", "0", "10006*a2", "1*b"}},
		{"2:0;3:3*a2+7*c;4:0;7:1*c2", []int64{1, 2}, "2:0;7:3472*a4", []string{"1*a", "0", "8577*a2", "1*b"}, "2:0;7:3472*a4", []string{"1*a", "0", "8577*a2", "1*b"}},
		{"1:1*b;2:0;3:1*b2", []int64{0, 1}, "3:0", []string{"0", "0", "1*a"}, "3:0", []string{"0", "0", "1*a"}},
		{"2:1*b;3:0;4:1*ab", []int64{0, 1}, "4:0", []string{"0", "0", "1*a"}, "4:0", []string{"0", "0", "1*a"}},
		{"2:1*b+1*de;3:0;3:0;1:0;2:0;5:1*bc", []int64{0, 1}, "3:0;1:0;2:0;5:1*abc", []string{"0", "10006*bc", "1*a", "1*b", "1*c", "1*d"}, "3:0;1:0;2:0;5:1*abc", []string{"0", "10006*bc", "1*a", "1*b", "1*c", "1*d"}},
		{"1:0;2:1*ab+1*c;3:1*ac", []int64{1, 2}, "1:0", []string{"1*a", "0", "0"}, "1:0", []string{"1*a", "0", "0"}},
		{"1:1*b+2*c;2:0;2:0", []int64{0, 1}, "2:0", []string{"0", "10005*a", "1*a"}, "2:0", []string{"0", "10005*a", "1*a"}},
		{"2:0;2:0;1:1*a+2*b", []int64{2, 0}, "2:0", []string{"10005*a", "1*a", "0"}, "2:0", []string{"10005*a", "1*a", "0"}},
		{"2:0;2:0;1:2*b;3:1*a2", []int64{2, 1}, "2:0;3:1*a2", []string{"1*a", "0", "0", "1*b"}, "2:0;3:1*a2", []string{"1*a", "0", "0", "1*b"}},
		{"1:1*b;2:0;1:1*d;2:0", []int64{0, 1}, "1:1*b;2:0", []string{"0", "0", "1*a", "1*b"}, "", []string{"0", "0", "0", "0"}},
		{"2:0;1:1*a;2:0;1:1*c", []int64{1, 0}, "2:0;1:1*a", []string{"0", "0", "1*a", "1*b"}, "", []string{"0", "0", "0", "0"}},
		{"1:1*b+1*c;2:0;2:0;1:1*b", []int64{0, 1}, "2:0;1:10006*a", []string{"0", "10006*a", "1*a", "1*b"}, "", []string{"0", "0", "0", "0"}},
		{"1:1*b+1*c;2:0;2:0;1:1*b+1*c", []int64{0, 1}, "2:0;1:0", []string{"0", "10006*a", "1*a", "1*b"}, "2:0;1:0", []string{"0", "10006*a", "1*a", "1*b"}},
		{"2:0;3:1*a2+1*c;4:0;3:1*c", []int64{1, 2}, "2:0;3:10006*a2", []string{"1*a", "0", "10006*a2", "1*b"}, "2:0;3:10006*a2", []string{"1*a", "0", "10006*a2", "1*b"}},
		{"2:0;3:1*a2+1*c;4:0;1:1*a", []int64{1, 2}, "2:0;1:1*a", []string{"1*a", "0", "10006*a2", "1*b"}, "", []string{"0", "0", "0", "0"}},
		{
			"2:0;2:0;3:1*b2+1*d;4:0;1:1*a+10006*b;7:1*d2", []int64{2, 3},
			"2:0;2:0;1:1*a+10006*b;7:1*b4", []string{"1*a", "1*b", "0", "10006*b2", "1*c", "1*d"},
			"2:0;7:1*a4", []string{"1*a", "1*a", "0", "10006*a2", "0", "1*b"},
		},
		{
			"1:1*b;2:0;1:1*d;2:0;1:1*f;2:0;1:1*h;2:0", []int64{0, 1},
			"1:1*b;2:0;1:1*d;2:0;1:1*f;2:0", []string{"0", "0", "1*a", "1*b", "1*c", "1*d", "1*e", "1*f"},
			"", []string{"0", "0", "0", "0", "0", "0", "0", "0"},
		},
	}
}

// minimalTexts returns texts of minimal algebras.
func minimalTexts() []string {
	return []string{"", "1:0", "12:0", "2:0;3:1*a2", "3:1*b2;2:0", "1:0;1:0;1:1*ab", "1:0;2:1*ab", "1:1*bc;1:1*ac;1:1*ab", "2:0;3:0;4:1*ab;6:1*bc", eight}
}

// contracted returns the projection of an algebra to that with its first pair contracted.
func contracted(t *testing.T, a impl.Algebra) mapping {
	t.Helper()
	b, m, code := impl.ContractPair(a)
	if code != impl.ErrNone {
		t.Fatalf("ContractPair(%v): code %d", a, code)
	}
	return mapping{a, b, m}
}

// reduced returns the projection of an algebra to the reduced one.
func reduced(t *testing.T, a impl.Algebra) mapping {
	t.Helper()
	b, m, code := impl.ReduceAlgebra(a)
	if code != impl.ErrNone {
		t.Fatalf("ReduceAlgebra(%v): code %d", a, code)
	}
	return mapping{a, b, m}
}

// changed returns an algebra with the generator i changed by f.
func changed(t *testing.T, a impl.Algebra, i int, f impl.Form) impl.Algebra {
	t.Helper()
	b, code := impl.ChangeGenerator(a, int64(i), f)
	if code != impl.ErrNone {
		t.Fatalf("ChangeGenerator(%v, %d, %v): code %d", a, i, f, code)
	}
	return b
}

// scaledBy returns an algebra with the generator i scaled by c.
func scaledBy(t *testing.T, a impl.Algebra, i int, c int64) impl.Algebra {
	t.Helper()
	b, code := impl.ScaleGenerator(a, int64(i), c)
	if code != impl.ErrNone {
		t.Fatalf("ScaleGenerator(%v, %d, %d): code %d", a, i, c, code)
	}
	return b
}

// exchanged returns an algebra with its generators exchanged by a list.
func exchanged(t *testing.T, a impl.Algebra, list []int64) impl.Algebra {
	t.Helper()
	b, code := impl.ExchangeGenerators(a, list)
	if code != impl.ErrNone {
		t.Fatalf("ExchangeGenerators(%v, %v): code %d", a, list, code)
	}
	return b
}

// randomOrder returns the numbers of count generators in some order.
func randomOrder(r *rand.Rand, count int) []int64 {
	var list []int64
	for _, i := range r.Perm(count) {
		list = append(list, int64(i))
	}
	return list
}
