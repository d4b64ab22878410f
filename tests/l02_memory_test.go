package tests

import (
	"math"
	"slices"
	"testing"

	"loop.example/g00306/impl"
)

// behind is what lies in the spare room of memories that are handed in; it may turn up nowhere.
const behind = -77

// roomyMemory holds the words, with spare room behind them that a call might read or write by mistake.
func roomyMemory(words ...int) impl.Memory {
	list := make([]int, 0, len(words)+3)
	list = append(list, words...)
	for range 3 {
		list = append(list, behind)
	}
	return impl.Memory{Words: list[:len(words)]}
}

// counted are n words with no two alike.
func counted(n int) []int {
	list := make([]int, n)
	for i := range list {
		list[i] = 100 + i
	}
	return list
}

// wantUntouched fails if the memory that was handed in, or the room behind it, is not as roomyMemory made it.
func wantUntouched(t *testing.T, m impl.Memory, words []int) {
	t.Helper()
	if !slices.Equal(m.Words, words) {
		t.Errorf("the memory handed in reads %v, was %v", m.Words, words)
	}
	for _, w := range m.Words[len(m.Words):cap(m.Words)] {
		if w != behind {
			t.Errorf("the room behind the memory was written: %d", w)
		}
	}
}

// wantUnshared fails if a write to what was handed back is seen in what was handed in; it spoils the first.
func wantUnshared(t *testing.T, back impl.Memory, m impl.Memory, words []int) {
	t.Helper()
	all := back.Words[:cap(back.Words)]
	for i := range all {
		if i >= len(back.Words) && all[i] == behind {
			t.Errorf("what lay behind the words is handed out")
		}
		all[i] = behind - 1
	}
	wantUntouched(t, m, words)
}

func TestNewMemory(t *testing.T) {
	for _, n := range []int{0, 1, 2, 100, impl.MaxWords - 1, impl.MaxWords} {
		m, ok := impl.NewMemory(n)
		if !ok || len(m.Words) != n {
			t.Fatalf("NewMemory(%d): %d words, %v", n, len(m.Words), ok)
		}
		for at, w := range m.Words {
			if w != 0 {
				t.Fatalf("NewMemory(%d): word %d is %d", n, at, w)
			}
		}
	}
	for _, n := range []int{-1, -2, impl.MaxWords + 1, impl.MaxWords + 2, math.MinInt, math.MaxInt} {
		if m, ok := impl.NewMemory(n); ok || len(m.Words) != 0 {
			t.Errorf("NewMemory(%d): %d words, %v", n, len(m.Words), ok)
		}
	}
	if impl.MaxWords != 20000 {
		t.Errorf("MaxWords is %d", impl.MaxWords)
	}
}

func TestNewMemoriesShareNothing(t *testing.T) {
	a, _ := impl.NewMemory(3)
	b, _ := impl.NewMemory(3)
	a.Words[1] = 5
	if c, _ := impl.NewMemory(3); b.Words[1] != 0 || c.Words[1] != 0 {
		t.Error("what is written into one memory is seen in another")
	}
}

func TestLoadWord(t *testing.T) {
	words := []int{7, -1, math.MinInt, math.MaxInt, 0}
	m := roomyMemory(words...)
	for at, want := range words {
		if v, ok := impl.LoadWord(m, at); !ok || v != want {
			t.Errorf("LoadWord at %d: %d, %v, want %d", at, v, ok, want)
		}
	}
	for _, at := range placesOutside(len(words)) {
		if v, ok := impl.LoadWord(m, at); ok || v != 0 {
			t.Errorf("LoadWord at %d: %d, %v", at, v, ok)
		}
	}
	wantUntouched(t, m, words)
}

// placesOutside are places at which a memory of n words has none.
func placesOutside(n int) []int {
	return []int{-1, -2, -n, -n - 1, n, n + 1, n + 2, n + 3, impl.MaxWords, math.MinInt, math.MinInt + 1, math.MaxInt - 1, math.MaxInt}
}

func TestStoreWord(t *testing.T) {
	words := counted(5)
	m := roomyMemory(words...)
	for at := range words {
		for _, v := range []int{0, 1, -1, 100, math.MinInt, math.MaxInt} {
			want := slices.Clone(words)
			want[at] = v
			back, ok := impl.StoreWord(m, at, v)
			if !ok || !slices.Equal(back.Words, want) {
				t.Errorf("StoreWord of %d at %d: %v, %v", v, at, back.Words, ok)
			}
			if got, ok := impl.LoadWord(back, at); !ok || got != v {
				t.Errorf("%d stored at %d is loaded as %d, %v", v, at, got, ok)
			}
			wantUnshared(t, back, m, words)
		}
	}
}

func TestStoreWordOutside(t *testing.T) {
	words := counted(4)
	m := roomyMemory(words...)
	for _, at := range placesOutside(len(words)) {
		back, ok := impl.StoreWord(m, at, 9)
		if ok || !slices.Equal(back.Words, words) {
			t.Errorf("StoreWord at %d: %v, %v", at, back.Words, ok)
		}
		wantUnshared(t, back, m, words)
	}
}

func TestMemoryOfNoWords(t *testing.T) {
	made, _ := impl.NewMemory(0)
	for _, m := range []impl.Memory{{}, made, roomyMemory()} {
		for _, at := range append(placesOutside(0), 0) {
			if v, ok := impl.LoadWord(m, at); ok || v != 0 {
				t.Errorf("LoadWord at %d: %d, %v", at, v, ok)
			}
			if back, ok := impl.StoreWord(m, at, 3); ok || len(back.Words) != 0 {
				t.Errorf("StoreWord at %d: %v, %v", at, back.Words, ok)
			}
			back, ok := impl.CopyWords(m, at, 0, 0)
			if ok != (at == 0) || len(back.Words) != 0 {
				t.Errorf("CopyWords of none from %d: %v, %v", at, back.Words, ok)
			}
			if back, ok = impl.CopyWords(m, 0, 0, 1); ok || len(back.Words) != 0 {
				t.Errorf("CopyWords of one: %v, %v", back.Words, ok)
			}
			wantUnshared(t, back, m, nil)
		}
	}
}

func TestCopyWordsOfKnownMemory(t *testing.T) {
	cases := []struct {
		from, to, n int
		want        []int
	}{
		{0, 1, 3, []int{1, 1, 2, 3, 5}}, // to lies behind from
		{1, 0, 3, []int{2, 3, 4, 4, 5}}, // to lies ahead of from
		{0, 2, 3, []int{1, 2, 1, 2, 3}}, // they overlap in one word
		{2, 0, 3, []int{3, 4, 5, 4, 5}}, // as above, the other way
		{0, 3, 2, []int{1, 2, 3, 1, 2}}, // they do not overlap
		{3, 0, 2, []int{4, 5, 3, 4, 5}}, // as above, the other way
		{1, 1, 3, []int{1, 2, 3, 4, 5}}, // both the same
		{0, 0, 5, []int{1, 2, 3, 4, 5}}, // all of it
		{4, 0, 1, []int{5, 2, 3, 4, 5}}, // the last word
		{0, 4, 1, []int{1, 2, 3, 4, 1}}, // onto the last word
		{0, 0, 0, []int{1, 2, 3, 4, 5}}, // none at the first word
		{5, 5, 0, []int{1, 2, 3, 4, 5}}, // none at how many there are
		{0, 5, 0, []int{1, 2, 3, 4, 5}}, // none to there
		{5, 0, 0, []int{1, 2, 3, 4, 5}}, // none from there
		{2, 4, 0, []int{1, 2, 3, 4, 5}}, // none in the midst
		{4, 4, 1, []int{1, 2, 3, 4, 5}}, // the last onto itself
		{0, 1, 4, []int{1, 1, 2, 3, 4}}, // as many as there is room for
		{1, 0, 4, []int{2, 3, 4, 5, 5}}, // as above, the other way
	}
	words := []int{1, 2, 3, 4, 5}
	m := roomyMemory(words...)
	for _, c := range cases {
		back, ok := impl.CopyWords(m, c.from, c.to, c.n)
		if !ok || !slices.Equal(back.Words, c.want) {
			t.Errorf("CopyWords %d %d %d: %v, %v, want %v", c.from, c.to, c.n, back.Words, ok, c.want)
		}
		wantUnshared(t, back, m, words)
	}
}

// TestCopyWordsEverywhere holds each word of each copy against what stood there, within and just outside a small memory.
func TestCopyWordsEverywhere(t *testing.T) {
	const size = 6
	words := counted(size)
	m := roomyMemory(words...)
	for from := -2; from <= size+2; from++ {
		for to := -2; to <= size+2; to++ {
			for n := -2; n <= size+2; n++ {
				fits := n >= 0 && from >= 0 && to >= 0 && from+n <= size && to+n <= size
				back, ok := impl.CopyWords(m, from, to, n)
				if ok != fits || len(back.Words) != size {
					t.Fatalf("CopyWords %d %d %d: %v, %v", from, to, n, back.Words, ok)
				}
				for at, v := range back.Words {
					want := words[at]
					if fits && at >= to && at < to+n {
						want = words[from+at-to]
					}
					if v != want {
						t.Errorf("CopyWords %d %d %d: word %d is %d, want %d", from, to, n, at, v, want)
					}
				}
				wantUnshared(t, back, m, words)
			}
		}
	}
}

func TestCopyWordsOutside(t *testing.T) {
	words := counted(4)
	m := roomyMemory(words...)
	const most, fewest = math.MaxInt, math.MinInt
	cases := [][3]int{
		{5, 5, 0}, {0, 5, 0}, {5, 0, 0}, {-1, 0, 0}, {0, -1, 0}, {-1, -1, 0}, {most, 0, 0}, {0, most, 0}, {fewest, 0, 0}, {0, fewest, 0},
		{0, 0, -1}, {4, 4, -1}, {3, 3, -2}, {0, 0, fewest}, {4, 4, fewest}, {fewest, fewest, fewest}, {-1, -1, -1},
		{0, 0, 5}, {1, 0, 4}, {0, 1, 4}, {4, 0, 1}, {0, 4, 1}, {-1, 0, 1}, {0, -1, 1}, {-1, 0, 2}, {0, -1, 2},
		{0, 0, most}, {1, 0, most}, {0, 1, most}, {4, 4, most}, {most, 0, 1}, {0, most, 1}, {most, most, 1}, {most, most, most},
		{most - 1, 0, 2}, {0, most - 1, 2}, {most, 0, most}, {2, 0, most - 1}, {0, 2, most - 1}, {fewest, 0, most}, {0, fewest, most}, {fewest, fewest, 1},
	}
	for _, c := range cases {
		back, ok := impl.CopyWords(m, c[0], c[1], c[2])
		if ok || !slices.Equal(back.Words, words) {
			t.Errorf("CopyWords %v: %v, %v", c, back.Words, ok)
		}
		wantUnshared(t, back, m, words)
	}
}

func TestWordsAtTheLimit(t *testing.T) {
	m, ok := impl.NewMemory(impl.MaxWords)
	if !ok {
		t.Fatal("the limit is refused")
	}
	const last = impl.MaxWords - 1
	if m, ok = impl.StoreWord(m, last, 8); !ok {
		t.Fatal("there is a last word")
	}
	if v, ok := impl.LoadWord(m, last); !ok || v != 8 {
		t.Error(v, ok)
	}
	if _, ok = impl.StoreWord(m, last+1, 8); ok {
		t.Error("a word behind the last")
	}
	back, ok := impl.CopyWords(m, 1, 0, last)
	if !ok || back.Words[last-1] != 8 || back.Words[last] != 8 || slices.Index(back.Words, 8) != last-1 {
		t.Error("the copy down by one word is wrong", ok)
	}
	if _, ok = impl.CopyWords(m, 1, 0, last+1); ok {
		t.Error("one word too many")
	}
}

// TestManyStoresAndCopies holds a memory that goes through many calls against plain words that do the same.
func TestManyStoresAndCopies(t *testing.T) {
	const size = 9
	m, _ := impl.NewMemory(size)
	plain := make([]int, size)
	numbers := spread(6000)
	for i := 0; i+2 < len(numbers); i += 3 {
		from, to, n := within(numbers[i], size+2), within(numbers[i+1], size+2), within(numbers[i+2], size+1)
		ok, fits := false, false
		if i%2 == 0 {
			fits = from < size
			if fits {
				plain[from] = numbers[i+1]
			}
			m, ok = impl.StoreWord(m, from, numbers[i+1])
		} else {
			fits = from+n <= size && to+n <= size
			if fits {
				stood := slices.Clone(plain[from : from+n])
				copy(plain[to:], stood)
			}
			m, ok = impl.CopyWords(m, from, to, n)
		}
		if ok != fits || !slices.Equal(m.Words, plain) {
			t.Fatalf("call %d with %d %d %d: %v, %v, want %v", i, from, to, n, m.Words, ok, plain)
		}
	}
}

// within tells a number in 0 .. n - 1.
func within(x int, n int) int {
	return int(uint(x) % uint(n))
}
