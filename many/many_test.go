package many_test

import (
	"math"
	"slices"
	"strconv"
	"strings"
	"testing"

	"gatehouse/api"
	"gatehouse/desk"
	"gatehouse/many"
	"gatehouse/plain"
)

// texts are so many sessions, all of them different, some of them long.
func texts(n int) []string {
	var l []string
	for i := range n {
		number := strconv.Itoa(i)
		s := "attach 0 " + number + " mov r1 " + number + "; call emit; mov r0 " + number + "; exit\n"
		s += strings.Repeat("event 0 "+number+" 1\nround\n", 1+i*37%50)
		if i%7 == 3 {
			s += strings.Repeat("x", api.MaxText)
		}
		l = append(l, s)
	}
	return l
}

// answers wants so many workers to answer texts as each of them alone is answered.
func answers(t *testing.T, l []string, workers int) []string {
	t.Helper()
	before := slices.Clone(l)
	got, err := many.All(l, workers)
	if err != nil {
		t.Fatalf("%d texts, %d workers: %v", len(l), workers, err)
	}
	if !slices.Equal(l, before) {
		t.Errorf("%d texts, %d workers: the texts have changed", len(l), workers)
	}
	if len(got) != len(l) {
		t.Fatalf("%d texts, %d workers: %d answers", len(l), workers, len(got))
	}
	for i, text := range l {
		if want := desk.Session(text); got[i] != want {
			t.Errorf("%d workers, text %d: %.100q, not %.100q", workers, i, got[i], want)
		}
	}
	return got
}

// refuses wants ErrLimit, and no answers beside it.
func refuses(t *testing.T, l []string, workers int) {
	t.Helper()
	got, err := many.All(l, workers)
	if e, place := plain.Place(err); e != api.ErrLimit || place != -1 || len(got) != 0 {
		t.Errorf("%d texts, %d workers: error %d at %d, %d answers", len(l), workers, e, place, len(got))
	}
}

// 8.1

func TestHowManyTexts(t *testing.T) {
	for _, n := range []int{0, 1, 2, 16, 17, 49, 50} {
		for _, workers := range []int{1, 2, 16} {
			answers(t, texts(n), workers)
		}
	}
	answers(t, nil, 1)
	for _, n := range []int{51, 52, 100} {
		for _, workers := range []int{1, 16} {
			refuses(t, texts(n), workers)
		}
	}
}

func TestHowManyWorkers(t *testing.T) {
	for _, n := range []int{0, 1, 50, 51} {
		for _, workers := range []int{math.MinInt, -1, 0, 17, 18, math.MaxInt} {
			refuses(t, texts(n), workers)
		}
	}
}

func TestWorkersMakeNoDifference(t *testing.T) {
	for _, n := range []int{1, 3, 15, 50} {
		l := texts(n)
		alone := answers(t, l, 1)
		for workers := 2; workers <= 16; workers++ {
			for range 5 {
				if got := answers(t, l, workers); !slices.Equal(got, alone) {
					t.Errorf("%d texts: %d workers answer something else than one", n, workers)
				}
			}
		}
	}
}

func TestMoreWorkersThanTexts(t *testing.T) {
	for n := range 5 {
		for workers := n + 1; workers <= 16; workers++ {
			answers(t, texts(n), workers)
		}
	}
}

// TestSameText: the same text twice is answered twice, as neither knows of the other.
func TestSameText(t *testing.T) {
	text := "programs 1\nattach 1 0 call time; exit\nevent 1 0 0\nevent 1 0 0\nround\nnew 1 1 1\nstate 1\n"
	want := "programs \n1\nevent\nevent\nround 1 0 0 2, 1 1 1 2\nnew\n0 0\n"
	for _, n := range []int{2, 50} {
		for workers := 1; workers <= 16; workers++ {
			for i, got := range answers(t, slices.Repeat([]string{text}, n), workers) {
				if got != want {
					t.Errorf("%d workers, text %d: %q, not %q", workers, i, got, want)
				}
			}
		}
	}
}

func TestOrder(t *testing.T) {
	l := []string{"", "state 3", "help x", "\n\n", strings.Repeat("x", api.MaxText+1), "round"}
	want := []string{"ok\n", "-1 0\n", "error 3\n", "ok\nok\n", "error 4\n", "round \n"}
	for workers := 1; workers <= 16; workers++ {
		if got := answers(t, l, workers); !slices.Equal(got, want) {
			t.Errorf("%d workers: %q, not %q", workers, got, want)
		}
	}
}

// TestNothingIsKept: neither what stands behind a list's length is written into, nor is an answer that was given out.
func TestNothingIsKept(t *testing.T) {
	room := []string{"state 0", "state 3", "behind", "behind"}
	first := answers(t, room[:2], 4)
	if !slices.Equal(room, []string{"state 0", "state 3", "behind", "behind"}) {
		t.Errorf("what is behind has changed: %q", room)
	}
	second := answers(t, room[:2], 4)
	second[0], room[0] = "another", "another"
	if !slices.Equal(first, []string{"0 0\n", "-1 0\n"}) {
		t.Errorf("an answer has changed: %q", first)
	}
}
