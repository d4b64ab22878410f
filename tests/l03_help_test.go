package tests

import (
	"bytes"
	"cmp"
	"fmt"
	"reflect"
	"slices"
	"strconv"
	"strings"
	"testing"

	"loop.example/g00306/impl"
)

// Parts of sources, written short.

func num(n int) impl.Expr         { return impl.Expr{Kind: impl.ExInt, N: n} }
func float(f float64) impl.Expr   { return impl.Expr{Kind: impl.ExFloat, N: impl.Bits(f)} }
func null(n int) impl.Expr        { return impl.Expr{Kind: impl.ExNil, N: n} }
func fresh(n int) impl.Expr       { return impl.Expr{Kind: impl.ExNew, N: n} }
func read() impl.Expr             { return impl.Expr{Kind: impl.ExRead} }
func named(name string) impl.Expr { return impl.Expr{Kind: impl.ExVar, Name: []byte(name)} }

func made(t impl.Ty, k impl.Expr) impl.Expr {
	return impl.Expr{Kind: impl.ExMake, Ty: t, Kids: []impl.Expr{k}}
}

func call(name string, kids ...impl.Expr) impl.Expr {
	return impl.Expr{Kind: impl.ExCall, Name: []byte(name), Kids: kids}
}

func field(k impl.Expr, name string) impl.Expr {
	return impl.Expr{Kind: impl.ExField, Name: []byte(name), Kids: []impl.Expr{k}}
}

func index(k impl.Expr, l impl.Expr) impl.Expr {
	return impl.Expr{Kind: impl.ExIndex, Kids: []impl.Expr{k, l}}
}

func size(k impl.Expr) impl.Expr    { return impl.Expr{Kind: impl.ExLen, Kids: []impl.Expr{k}} }
func toInt(k impl.Expr) impl.Expr   { return impl.Expr{Kind: impl.ExToInt, Kids: []impl.Expr{k}} }
func toFloat(k impl.Expr) impl.Expr { return impl.Expr{Kind: impl.ExToFloat, Kids: []impl.Expr{k}} }

func bin(op int, k impl.Expr, l impl.Expr) impl.Expr {
	return impl.Expr{Kind: impl.ExBin, N: op, Kids: []impl.Expr{k, l}}
}

func declare(name string, t impl.Ty) impl.Stmt {
	return impl.Stmt{Kind: impl.StVar, Name: []byte(name), Ty: t}
}

func set(k impl.Expr, l impl.Expr) impl.Stmt {
	return impl.Stmt{Kind: impl.StSet, Kids: []impl.Expr{k, l}}
}

// plain is a statement that has Kids alone.
func plain(kind int, kids ...impl.Expr) impl.Stmt {
	return impl.Stmt{Kind: kind, Kids: kids}
}

func choose(k impl.Expr, body []impl.Stmt, other []impl.Stmt) impl.Stmt {
	return impl.Stmt{Kind: impl.StIf, Kids: []impl.Expr{k}, Body: body, Else: other}
}

func loop(k impl.Expr, body ...impl.Stmt) impl.Stmt {
	return impl.Stmt{Kind: impl.StFor, Kids: []impl.Expr{k}, Body: body}
}

func param(name string, t impl.Ty) impl.Param { return impl.Param{Name: []byte(name), Ty: t} }

func structure(name string, fields ...impl.Param) impl.Struct {
	return impl.Struct{Name: []byte(name), Fields: fields}
}

func function(name string, params []impl.Param, res impl.Ty, body ...impl.Stmt) impl.Func {
	return impl.Func{Name: []byte(name), Params: params, Res: res, Body: body}
}

func tyInt() impl.Ty       { return impl.Ty{Kind: impl.TyInt} }
func tyFloat() impl.Ty     { return impl.Ty{Kind: impl.TyFloat} }
func tyPtr(n int) impl.Ty  { return impl.Ty{Kind: impl.TyPtr, N: n} }
func tyInts() impl.Ty      { return impl.Ty{Kind: impl.TyInts} }
func tyFloats() impl.Ty    { return impl.Ty{Kind: impl.TyFloats} }
func tyPtrs(n int) impl.Ty { return impl.Ty{Kind: impl.TyPtrs, N: n} }

// mainOf is a source whose only function has these statements.
func mainOf(body ...impl.Stmt) impl.Source {
	return impl.Source{Funcs: []impl.Func{function("main", nil, impl.Ty{}, body...)}}
}

// show writes a source so that two are written alike just where they are the same; nil and empty lists are.
func show(s impl.Source) string {
	return fmt.Sprintf("%+v", s)
}

func sameSource(a impl.Source, b impl.Source) bool {
	return show(a) == show(b)
}

// roomy is a copy of v in which each list has spare room, with something in it.
func roomy[T any](v T) T {
	return roomyValue(reflect.ValueOf(v)).Interface().(T)
}

func roomyValue(v reflect.Value) reflect.Value {
	back := reflect.New(v.Type()).Elem()
	switch v.Kind() {
	case reflect.Struct:
		for i := range v.NumField() {
			back.Field(i).Set(roomyValue(v.Field(i)))
		}
	case reflect.Slice:
		list := reflect.MakeSlice(v.Type(), v.Len()+2, v.Len()+2)
		for i := range v.Len() {
			list.Index(i).Set(roomyValue(v.Index(i)))
		}
		for i := v.Len(); i < list.Len(); i++ {
			spoil(list.Index(i))
		}
		back.Set(list.Slice(0, v.Len()))
	default:
		back.Set(v)
	}
	return back
}

// spoil makes a value one that is as no chapter wants it.
func spoil(v reflect.Value) {
	switch v.Kind() {
	case reflect.Uint8:
		v.SetUint('?')
	case reflect.Int:
		v.SetInt(-7)
	case reflect.Bool:
		v.SetBool(true)
	case reflect.Struct:
		for i := range v.NumField() {
			spoil(v.Field(i))
		}
	}
}

// deepText writes a value with all that lies in the spare room of its lists.
func deepText(v any) string {
	var b strings.Builder
	writeDeep(&b, reflect.ValueOf(v))
	return b.String()
}

func writeDeep(b *strings.Builder, v reflect.Value) {
	switch v.Kind() {
	case reflect.Struct:
		for i := range v.NumField() {
			writeDeep(b, v.Field(i))
		}
	case reflect.Slice:
		fmt.Fprintf(b, "[%d of %d:", v.Len(), v.Cap())
		all := v.Slice(0, v.Cap())
		for i := range all.Len() {
			writeDeep(b, all.Index(i))
		}
		b.WriteString("]")
	case reflect.Uint8:
		b.WriteByte(byte(v.Uint()))
	case reflect.Bool:
		b.WriteString(strconv.FormatBool(v.Bool()) + ",")
	default:
		b.WriteString(strconv.FormatInt(v.Int(), 36) + ",")
	}
}

// stretch is the memory from one address to another, not with it.
type stretch struct {
	from, to uintptr
}

// stretches tells the memory of all lists of a value, spare room too.
func stretches(v reflect.Value) []stretch {
	var list []stretch
	switch v.Kind() {
	case reflect.Struct:
		for i := range v.NumField() {
			list = append(list, stretches(v.Field(i))...)
		}
	case reflect.Slice:
		if v.Cap() > 0 {
			list = append(list, stretch{v.Pointer(), v.Pointer() + uintptr(v.Cap())*v.Type().Elem().Size()})
		}
		for i := range v.Len() {
			list = append(list, stretches(v.Index(i))...)
		}
	}
	return list
}

// wantFresh fails if two lists of an answer share memory, or one of them with an argument, whose own lists share none.
func wantFresh(t *testing.T, answer any, argument any) {
	t.Helper()
	all := append(stretches(reflect.ValueOf(answer)), stretches(reflect.ValueOf(argument))...)
	slices.SortFunc(all, func(a, b stretch) int { return cmp.Compare(a.from, b.from) })
	for i := 1; i < len(all); i++ {
		if all[i].from < all[i-1].to {
			t.Fatal("lists of an answer share memory with each other or with an argument")
		}
	}
}

// withRoom is a text in a list with something behind it.
func withRoom(text string) []byte {
	return roomy([]byte(text))
}

// parse asks Parse, and fails if that writes into the text or hands out memory that is shared.
func parse(t *testing.T, text string) (impl.Source, int, int) {
	t.Helper()
	b := withRoom(text)
	was := deepText(b)
	s, code, at := impl.Parse(b)
	if deepText(b) != was {
		t.Errorf("Parse wrote into its text %q", text)
	}
	wantFresh(t, s, b)
	if code != impl.ParseWell && !sameSource(s, impl.Source{}) {
		t.Errorf("%q is refused by %d with %s", text, code, show(s))
	}
	return s, code, at
}

// printed asks Print, SourceOk and Nodes, and fails if one writes into the source, hands out its memory, or they do not agree.
func printed(t *testing.T, s impl.Source) (string, bool) {
	t.Helper()
	full := roomy(s)
	was := deepText(full)
	text, ok := impl.Print(full)
	wantFresh(t, text, full)
	if impl.SourceOk(full) != ok || !ok && len(text) > 0 {
		t.Errorf("Print says %v, with %d bytes, SourceOk does not agree on %s", ok, len(text), show(s))
	}
	if parts := impl.Nodes(full); ok && parts != countedParts(s) {
		t.Errorf("Nodes says %d, not %d, of %s", parts, countedParts(s), show(s))
	}
	if deepText(full) != was {
		t.Errorf("something was written into %s", was)
	}
	return string(text), ok
}

// lex asks Lex, and fails if that writes into the text or hands out memory that is shared.
func lex(t *testing.T, text string) ([]impl.Token, int) {
	t.Helper()
	b := withRoom(text)
	was := deepText(b)
	tokens, bad := impl.Lex(b)
	if deepText(b) != was {
		t.Errorf("Lex wrote into its text %q", text)
	}
	wantFresh(t, tokens, b)
	if bad != -1 && len(tokens) > 0 {
		t.Errorf("Lex tells tokens of %q, and the place %d", text, bad)
	}
	return tokens, bad
}

// countedParts counts by itself what Nodes counts.
func countedParts(s impl.Source) int {
	count := 0
	for _, f := range s.Funcs {
		count += stmtParts(f.Body)
	}
	return count
}

func stmtParts(list []impl.Stmt) int {
	count := 0
	for _, s := range list {
		count += 1 + exprParts(s.Kids) + stmtParts(s.Body) + stmtParts(s.Else)
	}
	return count
}

func exprParts(list []impl.Expr) int {
	count := 0
	for _, e := range list {
		count += 1 + exprParts(e.Kids)
	}
	return count
}

// wantBothWays fails unless the text is that of the source, and the source that of the text.
func wantBothWays(t *testing.T, s impl.Source, text string) {
	t.Helper()
	if got, ok := printed(t, s); !ok || got != text {
		t.Errorf("printed, %v:\n%s\nwant:\n%s", ok, got, text)
	}
	back, code, at := parse(t, text)
	if code != impl.ParseWell || at != 0 || !sameSource(back, s) {
		t.Errorf("parsed, %d at %d:\n%s\nwant:\n%s\nof %s", code, at, show(back), show(s), text)
	}
}

// wantPlace fails unless the text, without its only @, is refused with the code at the place of that.
func wantPlace(t *testing.T, marked string, want int) {
	t.Helper()
	place := strings.Index(marked, "@")
	text := strings.Replace(marked, "@", "", 1)
	if _, code, at := parse(t, text); code != want || at != place {
		t.Errorf("%q: %d at %d, want %d at %d", text, code, at, want, place)
	}
}

// lines are texts, each with a line end behind it.
func lines(list ...string) string {
	var b bytes.Buffer
	for _, line := range list {
		b.WriteString(line)
		b.WriteByte(10)
	}
	return b.String()
}
