package align_test

import (
	"math/rand/v2"
	"slices"
	"testing"

	"versine/align"
	"versine/api"
)

// tableOf returns the table of a ride, by all alignments: each one is a beginning of which the sights behind its last pair are not counted.
func tableOf(r align.Ride, c align.Costs) [][]int {
	table := make([][]int, len(r.Sights))
	for i := range table {
		table[i] = constant(-1, len(r.Marks))
	}
	for _, l := range alignments(r) {
		if len(l) == 0 {
			continue
		}
		last := l[len(l)-1]
		cost := costOf(r, c, l) - c.Missed*(len(r.Sights)-1-last.Sight)
		if n := &table[last.Sight][last.Mark]; *n == -1 || cost < *n {
			*n = cost
		}
	}
	return table
}

// growthOf returns what the cost grows between two pairs: what an alignment of both costs, less what one of the first costs with the sights behind it.
func growthOf(r align.Ride, c align.Costs, first, second align.Pair) int {
	behind := len(r.Sights) - 1 - second.Sight
	return costOf(r, c, []align.Pair{first, second}) - c.Missed*(first.Sight+behind)
}

// boundOf returns the bound that a table proves, and whether it proves one, by the definition.
func boundOf(r align.Ride, c align.Costs, table [][]int) (int, bool) {
	bound := c.Missed * len(r.Sights)
	for s, sight := range r.Sights {
		for m, mark := range r.Marks {
			n := table[s][m]
			if (n == -1) != (sight.Kind != mark.Kind) {
				return 0, false
			}
			if n == -1 {
				continue
			}
			if n > c.Missed*s {
				return 0, false
			}
			for before := range s {
				for other := range m {
					if k := table[before][other]; k != -1 && n > k+growthOf(r, c, align.Pair{Sight: before, Mark: other}, align.Pair{Sight: s, Mark: m}) {
						return 0, false
					}
				}
			}
			bound = min(bound, n+c.Missed*(len(r.Sights)-1-s))
		}
	}
	return bound, true
}

// TestShownTable checks example 2.
func TestShownTable(t *testing.T) {
	table, e := align.Table(shown(), shownCosts())
	want(t, "Table", list(table, e), list(shownTable(), api.OK))
	for i, x := range []struct {
		change func(table [][]int)
		bound  int
		e      api.Errno
	}{
		{func(table [][]int) {}, 27, api.OK},
		{func(table [][]int) { table[1][1] = 6 }, 0, api.ErrProof},
		{func(table [][]int) { table[1][1], table[3][2] = 4, 26 }, 26, api.OK},
		{func(table [][]int) { table[1][1] = 4 }, 0, api.ErrProof},
		{func(table [][]int) { table[3][2] = 26 }, 26, api.OK},
		{func(table [][]int) { table[3][2] = 28 }, 0, api.ErrProof},
		{func(table [][]int) { table[3][2] = 0 }, 0, api.OK},
		// -1 exactly where the kinds differ.
		{func(table [][]int) { table[0][1] = 0 }, 0, api.ErrProof},
		{func(table [][]int) { table[0][0] = -1 }, 0, api.ErrProof},
		{func(table [][]int) { table[3][1] = 999999999 }, 0, api.ErrProof},
		{func(table [][]int) { table[3][2] = -1 }, 0, api.ErrProof},
		// At most Missed times the index of the sight.
		{func(table [][]int) { table[0][0] = 1 }, 0, api.ErrProof},
		{func(table [][]int) { table[3][0] = 61 }, 0, api.ErrProof},
		{func(table [][]int) { table[2][1] = 41 }, 0, api.ErrProof},
		{func(table [][]int) { table[2][1] = 999999999 }, 0, api.ErrProof},
		{func(table [][]int) { table[3][0], table[2][1] = 20, 3 }, 20, api.OK},
		{func(table [][]int) { table[2][1] = 0 }, 20, api.OK},
	} {
		table := shownTable()
		x.change(table)
		bound, e := align.CheckTable(shown(), shownCosts(), table)
		want(t, "CheckTable", list(i, bound, e), list(i, x.bound, x.e))
	}
}

// TestTablesOfFew checks tables of rides without marks, or without sights, and of one of both.
func TestTablesOfFew(t *testing.T) {
	for i, x := range []struct {
		r     align.Ride
		table [][]int
		bound int
	}{
		{align.Ride{}, nil, 0},
		{ride("a 1 b 2", ""), nil, 0},
		{ride("", "a 1 b 2"), [][]int{{}, {}}, 40},
		{ride("a 1", "b 2"), [][]int{{-1}}, 20},
		{ride("a 1", "a 2"), [][]int{{0}}, 0},
		{ride("a 10 a 20", "a 5"), [][]int{{0, 0}}, 0},
		{ride("a 10", "a 5 a 9"), [][]int{{0}, {20}}, 20},
	} {
		table, e := align.Table(x.r, shownCosts())
		want(t, "Table", list(i, table, e), list(i, x.table, api.OK))
		bound, e := align.CheckTable(x.r, shownCosts(), x.table)
		want(t, "CheckTable", list(i, bound, e), list(i, x.bound, api.OK))
	}
	for i, x := range []struct {
		r     align.Ride
		table [][]int
	}{
		{align.Ride{}, [][]int{{}}},
		{ride("a 1", ""), [][]int{{0}}},
		{ride("", "a 1 b 2"), [][]int{{}, {0}}},
		{ride("", "a 1 b 2"), [][]int{{}}},
		{ride("a 1", "a 1"), [][]int{{}}},
		{ride("a 1", "a 1"), nil},
	} {
		bound, e := align.CheckTable(x.r, shownCosts(), x.table)
		want(t, "CheckTable without shape", list(i, bound, e), list(i, 0, api.ErrShape))
	}
}

// changed returns a table of which some numbers are changed by at most a bound, up or down; those that stay are those of a proof.
func changed(g *rand.Rand, table [][]int, up, down int) [][]int {
	var out [][]int
	for _, row := range table {
		row = slices.Clone(row)
		for i := range row {
			if row[i] >= 0 && g.IntN(3) == 0 {
				row[i] = max(0, row[i]+between(g, -down, up))
			}
		}
		out = append(out, row)
	}
	return out
}

// TestAllTables checks tables of small rides against all their alignments, and what tables prove against the definition.
func TestAllTables(t *testing.T) {
	g := source(2)
	proofs, others := 0, 0
	for i := range 3000 {
		r, c := someRide(g, 5, 1+g.IntN(3), 6+g.IntN(30)), someCosts(g, 1<<g.IntN(5))
		table, e := align.Table(r, c)
		want(t, "Table", list(i, r, c, table, e), list(i, r, c, tableOf(r, c), api.OK))
		for range 6 {
			x := changed(g, table, g.IntN(4), g.IntN(6))
			bound, isProof := boundOf(r, c, x)
			wanted := api.ErrProof
			if isProof {
				wanted = api.OK
				proofs++
			} else {
				others++
			}
			got, e := align.CheckTable(r, c, x)
			want(t, "CheckTable", list(i, r, c, x, got, e), list(i, r, c, x, bound, wanted))
		}
	}
	if proofs < 3000 || others < 3000 {
		t.Errorf("too few tables are proofs, or none: %v, %v", proofs, others)
	}
}

// TestGreatTable checks the table of 64 marks and sights, whose numbers are the greatest ones.
func TestGreatTable(t *testing.T) {
	r, c := many(64), costs(1000, 1000, 1000)
	table, e := align.Table(r, c)
	for s, row := range table {
		for m, n := range row {
			want(t, "the number of a pair", list(s, m, n), list(s, m, 1000*(s-min(s, m))))
		}
	}
	bound, f := align.CheckTable(r, c, table)
	want(t, "its bound", list(e, bound, f), list(api.OK, 0, api.OK))
	table[63][0]++
	bound, f = align.CheckTable(r, c, table)
	want(t, "the bound of a greater number", list(bound, f), list(0, api.ErrProof))
}
