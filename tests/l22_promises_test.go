package tests

import (
	"math/rand"
	"slices"
	"testing"

	"loop.example/replayverifier/impl"
)

// reportOn returns DivergeReport of a run where it must not fail.
func reportOn(t *testing.T, l level, list []input, claimed []int) report {
	t.Helper()
	r, ok := impl.DivergeReport(l, list, claimed)
	if !ok {
		t.Errorf("DivergeReport(%v, %s, %v) fails", l, shownInputs(list), claimed)
	}
	return r
}

func TestP110(t *testing.T) {
	equal := 0
	eachTwoLists(func(a, b []int) {
		first := impl.DivergeFirst(a, b)
		switch {
		case first == -1:
			equal++
			if !slices.Equal(a, b) {
				t.Errorf("DivergeFirst of %d numbers %v and %d numbers %v = -1", len(a), shown(a), len(b), shown(b))
			}
		case first < 0 || first > len(a) || first > len(b) || first == len(a) && first == len(b):
			t.Errorf("DivergeFirst of %d numbers %v and %d numbers %v = %d", len(a), shown(a), len(b), shown(b), first)
		case !slices.Equal(a[:first], b[:first]):
			t.Errorf("%v and %v differ ahead of %d", shown(a), shown(b), first)
		case first < len(a) && first < len(b) && a[first] == b[first]:
			t.Errorf("%v and %v do not differ at %d", shown(a), shown(b), first)
		}
	})
	if equal < 100 {
		t.Errorf("only %d lists are equal", equal)
	}
}

// Equal lists have no difference, whatever their length.
func TestP110OfEqualLists(t *testing.T) {
	draw := rand.New(rand.NewSource(33))
	checkDiffer(t, nil, nil, -1, 0)
	for _, length := range listLengths() {
		list := drawnNumbers(draw, someNumbers(), length)
		checkDiffer(t, list, list, -1, 0)
		checkDiffer(t, list, slices.Clone(list), -1, 0)
	}
}

func TestP111(t *testing.T) {
	eachTwoLists(func(a, b []int) {
		if one, other := impl.DivergeFirst(a, b), impl.DivergeFirst(b, a); one != other {
			t.Errorf("DivergeFirst of %d numbers %v and %d numbers %v = %d, but %d in the other order", len(a), shown(a), len(b), shown(b), one, other)
		}
		if one, other := impl.DivergeCount(a, b), impl.DivergeCount(b, a); one != other {
			t.Errorf("DivergeCount of %d numbers %v and %d numbers %v = %d, but %d in the other order", len(a), shown(a), len(b), shown(b), one, other)
		}
	})
}

func TestP112(t *testing.T) {
	all, some := 0, 0
	eachTwoLists(func(a, b []int) {
		first, many := impl.DivergeFirst(a, b), impl.DivergeCount(a, b)
		if (many == 0) != (first == -1) || many < 0 {
			t.Errorf("DivergeCount of %d numbers %v and %d numbers %v = %d, but DivergeFirst is %d", len(a), shown(a), len(b), shown(b), many, first)
		}
		if first == -1 {
			return
		}
		most := max(len(a), len(b)) - first
		switch {
		case many > most:
			t.Errorf("DivergeCount of %d numbers %v and %d numbers %v = %d, but from %d on there are %d", len(a), shown(a), len(b), shown(b), many, first, most)
		case many == most:
			all++
		default:
			some++
		}
	})
	if all < 100 || some < 100 {
		t.Errorf("%d lists differ from an index on, and %d at some indexes", all, some)
	}
}

func TestP113(t *testing.T) {
	draw := rand.New(rand.NewSource(34))
	for _, length := range listLengths() {
		list := drawnNumbers(draw, someNumbers(), length)
		for index := range min(length, 150) {
			// Also from the end of a long list.
			for _, place := range []int{index, length - 1 - index} {
				numbers := []int{list[place] + 1, list[place] - 1, -1 - list[place], someNumbers()[draw.Intn(len(someNumbers()))]}
				for _, number := range numbers {
					if number != list[place] {
						checkDiffer(t, list, changedAt(list, place, number), place, 1)
					}
				}
			}
		}
	}
}

func TestP114(t *testing.T) {
	below, at := 0, 0
	eachReport(t, func(l level, list []input, claimed []int, r report) {
		if first := impl.DivergeFirst(impl.RunHashes(l, list), claimed); r.Index != first || r.Index < 0 {
			t.Errorf("DivergeReport(%v, %s, %v) = %v, but DivergeFirst is %d", l, shownInputs(list), claimed, r, first)
		}
		if r.From != r.Index*impl.Every || r.To != min((r.Index+1)*impl.Every, len(list)) {
			t.Errorf("DivergeReport(%v, %s, %v) = %v", l, shownInputs(list), claimed, r)
		}
		if r.From > r.To {
			t.Errorf("DivergeReport(%v, %s, %v) = %v, which begins behind its end", l, shownInputs(list), claimed, r)
		}
		if r.To == len(list) {
			at++
		} else {
			below++
		}
	})
	if below < 1000 || at < 1000 {
		t.Errorf("To is below the number of inputs in %d reports, and at it in %d", below, at)
	}
}

// There is a report wherever the hashes differ, and only there.
func TestP114ForAllClaims(t *testing.T) {
	eachClaim(func(l level, list []input, claimed []int) {
		differ := !slices.Equal(impl.RunHashes(l, list), claimed)
		if r, ok := impl.DivergeReport(l, list, claimed); ok != differ || !ok && r != (report{}) {
			t.Errorf("DivergeReport(%v, %s, %v) = %v, %v", l, shownInputs(list), claimed, r, ok)
		}
	})
}

func TestP115(t *testing.T) {
	eachDrive(func(l level, list []input) {
		for n := range len(list) + 1 {
			checkReport(t, l, list[:n], impl.RunHashes(l, list[:n]), report{}, false)
		}
	})
}

func TestP116(t *testing.T) {
	eachReport(t, func(l level, list []input, claimed []int, r report) {
		if r.From < 0 || r.From > len(list) {
			t.Errorf("DivergeReport(%v, %s, %v) = %v", l, shownInputs(list), claimed, r)
			return
		}
		right := impl.RunHashes(l, list[:r.From])
		if len(right) > len(claimed) || !slices.Equal(right, claimed[:len(right)]) {
			t.Errorf("DivergeReport(%v, %s, %v) = %v, but up to there the hashes are %v", l, shownInputs(list), claimed, r, right)
		}
	})
}

func TestP117(t *testing.T) {
	many := 0
	eachDrive(func(l level, list []input) {
		right := impl.RunHashes(l, list)
		if len(right) == 0 {
			return
		}
		many++
		last := len(right) - 1
		r := reportOn(t, l, list, right[:last])
		if r.Index != last || r.From != last*impl.Every || r.To != (last+1)*impl.Every {
			t.Errorf("DivergeReport(%v, %s, %v) = %v", l, shownInputs(list), right[:last], r)
		}
	})
	if many < 100 {
		t.Errorf("only %d runs have hashes", many)
	}
}
