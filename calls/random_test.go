package calls

import (
	"math/rand"
	"slices"
	"strconv"
	"strings"
	"testing"

	"entail/api"
)

// randomProgram returns a program of some functions that call each other, and who calls whom.
func randomProgram(r *rand.Rand, n int) (string, [][]bool) {
	calls := make([][]bool, n)
	var b strings.Builder
	for i := range n {
		calls[i] = make([]bool, n)
		body := "1"
		for range r.Intn(3) {
			j := r.Intn(n)
			calls[i][j] = true
			body += " + f" + strconv.Itoa(j) + "()"
		}
		b.WriteString("function f" + strconv.Itoa(i) + "(): int { " + body + " } ")
	}
	return b.String(), calls
}

// closure returns who reaches whom by at least one call.
func closure(calls [][]bool) [][]bool {
	reach := make([][]bool, len(calls))
	for i := range calls {
		reach[i] = slices.Clone(calls[i])
	}
	for k := range reach {
		for i := range reach {
			for j := range reach {
				reach[i][j] = reach[i][j] || reach[i][k] && reach[k][j]
			}
		}
	}
	return reach
}

// expected returns the components, by the words of the chapter.
func expected(calls [][]bool) string {
	reach := closure(calls)
	taken := make([]bool, len(calls))
	var order []string
	for {
		next := -1
		for i := range calls {
			if next < 0 && !taken[i] && isNext(calls, reach, taken, i) {
				next = i
			}
		}
		if next < 0 {
			return strings.Join(order, "; ")
		}
		var names []string
		for j := range calls {
			if j == next || reach[next][j] && reach[j][next] {
				taken[j] = true
				names = append(names, "f"+strconv.Itoa(j))
			}
		}
		order = append(order, strings.Join(names, " "))
	}
}

// isNext reports whether all callables in the component of one call only it and what is taken.
func isNext(calls, reach [][]bool, taken []bool, i int) bool {
	inside := func(j int) bool { return j == i || reach[i][j] && reach[j][i] }
	for j := range calls {
		for k := range calls {
			if inside(j) && calls[j][k] && !inside(k) && !taken[k] {
				return false
			}
		}
	}
	return true
}

func TestGraphs(t *testing.T) { // P11.1, P11.4
	for seed := range int64(300) {
		r := rand.New(rand.NewSource(seed))
		s, calls := randomProgram(r, 1+r.Intn(9))
		p := read(t, s)
		reach := closure(calls)
		l, e := Components(p)
		if listed(l) != expected(calls) || e != api.OK {
			t.Errorf("Components of %s: %s, %d, want %s", s, listed(l), e, expected(calls))
		}
		home := map[string]int{}
		for i, names := range l {
			for _, name := range names {
				home[name] = i
			}
		}
		for i := range calls {
			a := "f" + strconv.Itoa(i)
			callees, _ := Calls(p, a)
			reached, _ := Reached(p, a)
			recursive, _ := Recursive(p, a)
			if recursive != reach[i][i] {
				t.Errorf("Recursive of %s in %s: %v", a, s, recursive)
			}
			for j := range calls {
				b := "f" + strconv.Itoa(j)
				together, _ := Together(p, a, b)
				is := reach[i][j] && reach[j][i]
				if together != is || (home[a] == home[b]) != (is || i == j) {
					t.Errorf("Together of %s and %s in %s: %v", a, b, s, together)
				}
				if slices.Contains(callees, b) != calls[i][j] || slices.Contains(reached, b) != (reach[i][j] || i == j) {
					t.Errorf("%s and %s in %s: calls %v, reaches %v", a, b, s, callees, reached)
				}
				if calls[i][j] && home[b] > home[a] {
					t.Errorf("%s in %s calls a later component", a, s)
				}
			}
		}
	}
}
