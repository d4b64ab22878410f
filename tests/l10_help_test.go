package tests

import (
	"fmt"
	"slices"
	"strings"
	"testing"

	"loop.example/g00306/impl"
)

// homes asks Homes twice, and fails if that writes into the unit, hands out memory that is shared, tells other than the
// second way does, or what is not HomesOk.
func homes(t *testing.T, u impl.Unit, n int) ([]int, bool) {
	t.Helper()
	full := roomy(u)
	was := deepText(full)
	list, ok := impl.Homes(full, n)
	again, same := impl.Homes(full, n)
	if deepText(full) != was {
		t.Errorf("something was written into\n%s", showUnit(u))
	}
	wantFresh(t, list, full)
	wantFresh(t, list, again)
	if ok != same || !slices.Equal(list, again) {
		t.Errorf("the first time, %v: %v\nthe second time, %v: %v", ok, list, same, again)
	}
	if n < 0 || n >= len(u.Fns) || faultOf(u) != "" {
		if ok || len(list) > 0 {
			t.Fatalf("%v: %v of %d of\n%s", ok, list, n, showUnit(u))
		}
		return list, ok
	}
	wantHomesSecond(t, u, n, list, ok)
	if ok && !homesOk(t, u, n, list) {
		t.Fatalf("not HomesOk: %v of %d of\n%s", list, n, showUnit(u))
	}
	return list, ok
}

// wantHomesSecond fails unless what is told of a function is what the second way tells, and what it says is well.
func wantHomesSecond(t *testing.T, u impl.Unit, n int, list []int, ok bool) {
	t.Helper()
	f := u.Fns[n]
	want, fits := secondHomes(f)
	if ok != fits || !slices.Equal(list, want) {
		t.Fatalf("%v: %v\nthe second way, %v: %v\nof %d of\n%s", ok, list, fits, want, n, showUnit(u))
	}
	if fault := newLodging(f).fault(list); ok && fault != "" {
		t.Fatalf("%s: %v of %d of\n%s", fault, list, n, showUnit(u))
	}
}

// homesOk asks HomesOk twice, and fails if that writes into what it is given, or tells other than the second way does.
func homesOk(t *testing.T, u impl.Unit, n int, list []int) bool {
	t.Helper()
	full, given := roomy(u), roomy(list)
	was := deepText(full) + deepText(given)
	ok := impl.HomesOk(full, n, given)
	if impl.HomesOk(full, n, given) != ok {
		t.Errorf("the first time %v, the second time not", ok)
	}
	if deepText(full)+deepText(given) != was {
		t.Errorf("something was written into %v or\n%s", list, showUnit(u))
	}
	if fault := homesFault(u, n, list); ok != (fault == "") {
		t.Fatalf("%v, the second way: %q, of %v of %d of\n%s", ok, fault, list, n, showUnit(u))
	}
	return ok
}

// homeText writes a register by its number, a slot by s and its number, no home as -.
func homeText(home int) string {
	if home >= impl.Regs {
		return fmt.Sprint("s", home-impl.Regs)
	}
	if home == -1 {
		return "-"
	}
	return fmt.Sprint(home)
}

// homeOf reads what homeText writes.
func homeOf(word string) int {
	if slot, ok := strings.CutPrefix(word, "s"); ok {
		return impl.Regs + decimal(slot)
	}
	if word == "-" {
		return -1
	}
	return decimal(word)
}

// homesText writes a name and a home for each value that has a name, in the order of their numbers.
func homesText(names map[string]int, list []int) string {
	var words []string
	for v, home := range list {
		if name := nameOf(names, v); name[0] != '#' {
			words = append(words, name+" "+homeText(home))
		}
	}
	return strings.Join(words, ", ")
}

// wantHomes fails unless the named values of the first function of a text's unit have these homes; and those of all its
// functions, numbered another way, what the second way has.
func wantHomes(t *testing.T, text string, want string) {
	t.Helper()
	a := asmOf(text)
	list, ok := homes(t, a.unit, 0)
	if !ok {
		t.Fatalf("refused: %s", text)
	}
	if got := homesText(a.fns[0].vals, list); got != want {
		t.Errorf("%s\n%s\nwant:\n%s", text, got, want)
	}
	for v, val := range a.unit.Fns[0].Vals {
		if (val.Ty == impl.Ty{}) != (list[v] == -1) {
			t.Errorf("%s\nthe value %d has the home %d", text, v, list[v])
		}
	}
	for _, u := range []impl.Unit{turnedNumbers(a.unit), turnedBlocks(a.unit)} {
		for n := range u.Fns {
			homes(t, u, n)
		}
	}
}

// wantSpans fails unless in the first function of a text's unit the named values keep their homes from a place to another:
//
//	NAME FROM TO, ..
//
// The program does not tell spans; this is held against the second way, so that what that says of homes can be relied on.
func wantSpans(t *testing.T, text string, want string) {
	t.Helper()
	a := asmOf(text)
	if !unitOk(t, a.unit) {
		t.Fatalf("no unit: %s", text)
	}
	var words []string
	for v, s := range secondSpans(a.unit.Fns[0]) {
		if name := nameOf(a.fns[0].vals, v); name[0] != '#' {
			words = append(words, fmt.Sprint(name, " ", s.from, " ", s.to))
		}
	}
	if got := strings.Join(words, ", "); got != want {
		t.Errorf("%s\n%s\nwant:\n%s", text, got, want)
	}
}

// givenHomes are homes for the values of a unit's first function: those that are named, as wantHomes has them, and for all
// others a slot of their own each, or none where they have no type.
func givenHomes(a asm, words string) []int {
	f := a.unit.Fns[0]
	list := make([]int, len(f.Vals))
	for v := range f.Vals {
		list[v] = impl.Regs + 100 + v
		if !hasType(f, v) {
			list[v] = -1
		}
	}
	for _, word := range strings.Split(words, ",") {
		if name, home, ok := strings.Cut(strings.TrimSpace(word), " "); ok {
			list[numbered(a.fns[0].vals, name)] = homeOf(home)
		}
	}
	return list
}

// wantHomesOk fails unless the first function of a text's unit may have each of these homes, or may have none of them.
func wantHomesOk(t *testing.T, text string, want bool, texts ...string) {
	t.Helper()
	a := asmOf(text)
	if !unitOk(t, a.unit) {
		t.Fatalf("no unit: %s", text)
	}
	for _, words := range texts {
		if got := homesOk(t, a.unit, 0, givenHomes(a, words)); got != want {
			t.Errorf("%s\nwith %s: %v, want %v", text, words, got, want)
		}
	}
}
