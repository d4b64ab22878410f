package tests

import (
	"bytes"
	"fmt"
	"slices"
	"testing"

	"loop.example/g00306/impl"
)

func sameBuild(a impl.Build, b impl.Build) bool {
	return a.Code == b.Code && a.At == b.At && bytes.Equal(a.Bytes, b.Bytes)
}

// shortText is a text, or the beginning of one that nobody would read.
func shortText(text string) string {
	if len(text) > 600 {
		return fmt.Sprintf("%q and so on, %d bytes", text[:600], len(text))
	}
	return fmt.Sprintf("%q", text)
}

func showBuild(b impl.Build) string {
	return fmt.Sprintf("code %d at %d, with %d bytes", b.Code, b.At, len(b.Bytes))
}

// secondBuild is what the chapter says, with the second ways of passes, of code and of bytes.
func secondBuild(text string, passes []int) impl.Build {
	s, code, at := impl.Parse([]byte(text))
	switch {
	case code != impl.ParseWell:
		return impl.Build{Code: map[int]int{impl.ParseLong: impl.BuildLong, impl.ParseByte: impl.BuildByte, impl.ParseForm: impl.BuildForm}[code], At: at}
	case !impl.NamesOk(s):
		return impl.Build{Code: impl.BuildName}
	case !impl.FlowOk(s):
		return impl.Build{Code: impl.BuildFlow}
	}
	typed, code := impl.Check(s)
	if code != impl.TypeWell {
		return impl.Build{Code: impl.BuildClash}
	}
	u, ok := impl.Lower(typed)
	if !ok {
		return impl.Build{Code: impl.BuildLarge}
	}
	o, ok := secondOptimized(u, passes)
	if !ok {
		return impl.Build{Code: impl.BuildPass}
	}
	m, ok := secondEmit(o)
	if !ok {
		return impl.Build{Code: impl.BuildLarge}
	}
	return impl.Build{Bytes: secondBytes(m)}
}

// compile asks Compile twice, and fails if that writes into what it is given, hands out memory that is shared, tells two
// things, what is no build, or other than the second way does.
func compile(t *testing.T, text string, passes []int) impl.Build {
	t.Helper()
	full, list := withRoom(text), roomy(passes)
	was := deepText(full) + deepText(list)
	b, again := impl.Compile(full, list), impl.Compile(full, list)
	if deepText(full)+deepText(list) != was {
		t.Errorf("something was written into %s or %v", shortText(text), passes)
	}
	wantFresh(t, b, full)
	wantFresh(t, b, list)
	wantFresh(t, b, again)
	if !sameBuild(b, again) {
		t.Errorf("%s behind %v: the first time %s, the second time %s", shortText(text), passes, showBuild(b), showBuild(again))
	}
	wantBuildFits(t, text, b)
	if want := secondBuild(text, passes); !sameBuild(b, want) {
		t.Errorf("%s behind %v: %s; the second way: %s", shortText(text), passes, showBuild(b), showBuild(want))
	}
	return b
}

// wantBuildFits fails unless a build's fields fit its code, and its bytes are those of an image.
func wantBuildFits(t *testing.T, text string, b impl.Build) {
	t.Helper()
	ok := b.Code >= impl.BuildWell && b.Code <= impl.BuildPass && b.At >= 0 && b.At <= len(text)
	if b.Code != impl.BuildByte && b.Code != impl.BuildForm {
		ok = ok && b.At == 0
	}
	m, isImage := impl.ImageRead(b.Bytes)
	if !ok || isImage != (b.Code == impl.BuildWell) || !isImage && len(b.Bytes) > 0 {
		t.Fatalf("no build of %s: %s", shortText(text), showBuild(b))
	}
	if isImage && !impl.ImageOk(m) {
		t.Fatalf("no image of %s", shortText(text))
	}
}

// wantBuild fails unless a text is refused so, or is well, behind these passes.
func wantBuild(t *testing.T, text string, passes []int, code int, at int) impl.Build {
	t.Helper()
	b := compile(t, text, passes)
	if b.Code != code || b.At != at {
		t.Errorf("%s behind %v: %s, want code %d at %d", shortText(text), passes, showBuild(b), code, at)
	}
	return b
}

// wellImage is the image of a text that must be well.
func wellImage(t *testing.T, text string, passes []int) impl.Image {
	t.Helper()
	b := impl.Compile([]byte(text), passes)
	m, ok := impl.ImageRead(b.Bytes)
	if b.Code != impl.BuildWell || !ok {
		t.Fatalf("%s behind %v: %s", shortText(text), passes, showBuild(b))
	}
	return m
}

// runText asks RunText twice, and fails if that writes into what it is given, hands out its memory, tells two things, or
// other than RunImage of what Compile makes.
func runText(t *testing.T, text string, passes []int, s impl.Setup) impl.Result {
	t.Helper()
	full, list, in := withRoom(text), roomy(passes), roomy(s)
	was := deepText(full) + deepText(list) + deepText(in)
	r, again := impl.RunText(full, list, in), impl.RunText(full, list, in)
	if deepText(full)+deepText(list)+deepText(in) != was {
		t.Errorf("something was written into %s, %v or %s", shortText(text), passes, showSetup(s))
	}
	for _, other := range []any{full, list, in, again} {
		wantFresh(t, r, other)
	}
	if !sameResult(r, again) {
		t.Errorf("%s: the first time %s, the second time %s", shortText(text), resultText(r), resultText(again))
	}
	wantResultFits(t, r, s)
	want := impl.Result{}
	if m, ok := impl.ImageRead(impl.Compile([]byte(text), passes).Bytes); ok {
		want = impl.RunImage(m, s)
	}
	if !sameResult(r, want) {
		t.Errorf("%s behind %v with %s: %s, its image: %s", shortText(text), passes, showSetup(s), resultText(r), resultText(want))
	}
	return r
}

// endsItself tells whether a run came to an end of its own.
func endsItself(r impl.Result) bool {
	return r.End == impl.EndExit || r.End == impl.EndPanic || r.End == impl.EndTrap || r.End == impl.EndDeep
}

// begins tells whether one of two lists is the beginning of the other.
func begins(a []impl.Item, b []impl.Item) bool {
	both := min(len(a), len(b))
	return slices.Equal(a[:both], b[:both])
}

// plainResult is resultText without how often something was moved, and without the steps.
func plainResult(r impl.Result) string {
	return plainText(impl.Outcome{End: r.End, Code: r.Code, Out: r.Out})
}

// someOracles are none, and such that move much: at each place, at some, in turns; of numbers that say nothing; too short
// and far too long ones.
func someOracles(m *maker) [][]int {
	mixed, sparse := make([]int, 400), make([]int, impl.MaxOracle)
	for n := range mixed {
		mixed[n] = m.pick(3)
	}
	for n := range sparse {
		sparse[n] = []int{0, 0, 0, 0, 1, 2}[m.pick(6)]
	}
	return [][]int{
		nil,
		slices.Repeat([]int{1}, impl.MaxOracle),
		slices.Repeat([]int{2}, impl.MaxOracle),
		slices.Repeat([]int{1, 2}, impl.MaxOracle/2),
		slices.Repeat([]int{2, 1, 1}, 600),
		mixed,
		sparse,
		{1},
		{2, 2},
		{0, 1, 2},
		{3, -1, 4, 1 << 40, -1 << 63, 1<<63 - 1, 1, 2, -2},
	}
}
