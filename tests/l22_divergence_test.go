package tests

import (
	"math"
	"math/rand"
	"runtime"
	"slices"
	"sync"
	"testing"

	"loop.example/replayverifier/impl"
)

type report = impl.Report

// someNumbers returns numbers from the smallest to the largest, among them some
// that are alike in their lower bits.
func someNumbers() []int {
	return []int{
		math.MinInt, math.MinInt + 1, math.MinInt32, -1 << 32, -hashes, -2, -1, 0, 1, 2, 17, hashes - 1, hashes, hashes + 1,
		math.MaxInt32, 1 << 32, 1<<32 + 1, 1<<32 + 17, 1 << 62, math.MaxInt - 1, math.MaxInt,
	}
}

// drawnNumbers returns a list of some of the numbers.
func drawnNumbers(draw *rand.Rand, numbers []int, length int) []int {
	list := make([]int, length)
	for i := range list {
		list[i] = numbers[draw.Intn(len(numbers))]
	}
	return list
}

// counted returns the numbers from 0 on, so many of them.
func counted(length int) []int {
	list := make([]int, length)
	for i := range list {
		list[i] = i
	}
	return list
}

// changedAt returns a list with one other number.
func changedAt(list []int, index int, number int) []int {
	other := slices.Clone(list)
	other[index] = number
	return other
}

// eachShortList calls check with all lists of 1 and 2 that have at most so many
// numbers.
func eachShortList(most int, check func(list []int)) {
	for length := range most + 1 {
		for bits := range 1 << length {
			list := make([]int, length)
			for i := range list {
				list[i] = 1 + bits>>i&1
			}
			check(list)
		}
	}
}

// listLengths returns lengths of lists: all short ones, those around powers of
// 2 and multiples of 12 and 60, and long ones.
func listLengths() []int {
	lengths := counted(75)
	return append(lengths, 83, 84, 85, 95, 96, 97, 119, 120, 121, 127, 128, 129, 143, 144, 145, 199, 200, 201, 255, 256, 257, 719, 720, 721, 1000, 4096)
}

// similarLists returns lists that differ from a list in all kinds of ways: not
// at all, at some indexes, at all of them, and in their lengths.
func similarLists(draw *rand.Rand, numbers []int, list []int) [][]int {
	length := len(list)
	part := slices.Clone(list[:draw.Intn(length+1)])
	lists := [][]int{
		nil, slices.Clone(list), part,
		slices.Concat(list, drawnNumbers(draw, numbers, 1)), slices.Concat(list, drawnNumbers(draw, numbers, 1+draw.Intn(20))),
		drawnNumbers(draw, numbers, length), drawnNumbers(draw, numbers, draw.Intn(length+9)),
		slices.Concat(drawnNumbers(draw, numbers, 1), list), slices.Concat(part, drawnNumbers(draw, numbers, draw.Intn(9))),
	}
	if length > 0 {
		few := slices.Clone(list)
		for range 3 {
			few[draw.Intn(length)] = numbers[draw.Intn(len(numbers))]
		}
		lists = append(lists, list[1:], list[:length-1], few, changedAt(list, length-1, numbers[draw.Intn(len(numbers))]), changedAt(list, 0, numbers[draw.Intn(len(numbers))]))
		lists = append(lists, few[:draw.Intn(length+1)], slices.Concat(few, drawnNumbers(draw, numbers, draw.Intn(length+1))))
	}
	return lists
}

// eachTwoLists calls check with two lists, most of which have much in common.
func eachTwoLists(check func(a, b []int)) {
	draw := rand.New(rand.NewSource(31))
	eachShortList(3, func(a []int) {
		eachShortList(3, func(b []int) { check(a, b) })
	})
	for _, numbers := range [][]int{{0, 1}, someNumbers(), counted(100000)} {
		for _, length := range listLengths() {
			for range 2 {
				list := drawnNumbers(draw, numbers, length)
				for _, other := range similarLists(draw, numbers, list) {
					check(list, other)
				}
			}
		}
	}
}

// differByDefinition returns all indexes at which two lists differ.
func differByDefinition(a, b []int) []int {
	shorter := min(len(a), len(b))
	var indexes []int
	for index := range shorter {
		if a[index] != b[index] {
			indexes = append(indexes, index)
		}
	}
	for index := shorter; index < len(a) || index < len(b); index++ {
		indexes = append(indexes, index)
	}
	return indexes
}

// checkDiffer checks DivergeFirst and DivergeCount of two lists in either order.
func checkDiffer(t *testing.T, a, b []int, first, many int) {
	t.Helper()
	for range 2 {
		if got := impl.DivergeFirst(a, b); got != first {
			t.Errorf("DivergeFirst of %d numbers %v and %d numbers %v = %d, want %d", len(a), shown(a), len(b), shown(b), got, first)
		}
		if got := impl.DivergeCount(a, b); got != many {
			t.Errorf("DivergeCount of %d numbers %v and %d numbers %v = %d, want %d", len(a), shown(a), len(b), shown(b), got, many)
		}
		a, b = b, a
	}
}

// checkByDefinition checks DivergeFirst and DivergeCount of any two lists.
func checkByDefinition(t *testing.T, a, b []int) {
	t.Helper()
	indexes := differByDefinition(a, b)
	first := -1
	if len(indexes) > 0 {
		first = indexes[0]
	}
	checkDiffer(t, a, b, first, len(indexes))
}

func checkReport(t *testing.T, l level, list []input, claimed []int, want report, wantOk bool) {
	t.Helper()
	if got, ok := impl.DivergeReport(l, list, claimed); got != want || ok != wantOk {
		t.Errorf("DivergeReport(%v, %s, %v) of %d hashes = %v, %v, want %v, %v", shownLevel(l), shownInputs(list), claimed[:min(len(claimed), 15)], len(claimed), got, ok, want, wantOk)
	}
}

func reportOf(index, from, to int) report {
	return report{Index: index, From: from, To: to}
}

// checkNoReport checks that there is no report of a list that is no run,
// whatever hashes are claimed.
func checkNoReport(t *testing.T, l level, list []input) {
	t.Helper()
	for _, claimed := range [][]int{nil, {}, {0}, {-1}, {17}, {968954}, repeated(-1, 12), counted(13)} {
		checkReport(t, l, list, claimed, report{}, false)
	}
}

// hashesOfRun returns the hashes of a run by the definition.
func hashesOfRun(l level, list []input) []int {
	states := statesByDefinition(l, list)
	var list5 []int
	for n := 5; n < len(states); n += 5 {
		list5 = append(list5, stateHashByDefinition(states[n]))
	}
	return list5
}

// reportByDefinition returns the report of a run and whether there is one.
func reportByDefinition(l level, list []input, claimed []int) (report, bool) {
	indexes := differByDefinition(hashesOfRun(l, list), claimed)
	if len(indexes) == 0 {
		return report{}, false
	}
	r := report{Index: indexes[0], From: 5 * indexes[0], To: 5*indexes[0] + 5}
	if r.To > len(list) {
		r.To = len(list)
	}
	return r, true
}

// wrongHashes returns numbers that differ from a hash.
func wrongHashes(hash int) []int {
	return []int{hash + 1, hash - 1, -hash - 1, hash + hashes, hash - hashes, hash + 1<<32, hash ^ math.MinInt, math.MinInt, math.MaxInt, -1}
}

// claims returns lists of hashes that players may claim for a run: true ones,
// too few, too many, and some that are wrong here and there.
func claims(right []int) [][]int {
	many := len(right)
	lists := [][]int{right, slices.Concat(right, []int{0}), slices.Concat(right, []int{-1, 5, 7}), slices.Concat(right, repeated(1, 70)), {}, {-1}}
	if many == 0 {
		return lists
	}
	lists = append(lists, slices.Concat(right, right), slices.Concat(right, right[many-1:]), right[1:], right[:many/2])
	for index := range many {
		wrong := wrongHashes(right[index])
		other := changedAt(right, index, wrong[index%len(wrong)])
		lists = append(lists, other, right[:index], other[:index+1], append(slices.Clone(other), 3), slices.Insert(slices.Clone(right), index, -1))
		lists = append(lists, changedAt(other, many-1, -7), changedAt(other, 0, -7), slices.Delete(slices.Clone(right), index, index+1))
	}
	return lists
}

// eachClaim calls check with runs and with hashes that are claimed for them.
func eachClaim(check func(l level, list []input, claimed []int)) {
	eachDrive(func(l level, list []input) {
		for _, claimed := range claims(hashesOfRun(l, list)) {
			check(l, list, claimed)
		}
	})
}

// eachReport calls check with the claims of which DivergeReport succeeds.
func eachReport(t *testing.T, check func(l level, list []input, claimed []int, r report)) {
	t.Helper()
	many := 0
	eachClaim(func(l level, list []input, claimed []int) {
		if r, ok := impl.DivergeReport(l, list, claimed); ok {
			many++
			check(l, list, claimed, r)
		}
	})
	if many < 1000 {
		t.Errorf("DivergeReport succeeds for only %d claims", many)
	}
}

func TestDifferRows(t *testing.T) {
	rows := []struct {
		a, b        []int
		first, many int
	}{
		{nil, nil, -1, 0}, {nil, []int{}, -1, 0}, {[]int{}, []int{}, -1, 0}, {[]int{}, make([]int, 0, 9), -1, 0},
		{nil, []int{0}, 0, 1}, {[]int{}, []int{-1}, 0, 1}, {nil, []int{0, 0, 0}, 0, 3},
		{[]int{0}, []int{0}, -1, 0}, {[]int{0}, []int{1}, 0, 1}, {[]int{1}, []int{-1}, 0, 1}, {[]int{-1}, []int{-1}, -1, 0},
		{[]int{1}, []int{1, 1}, 1, 1}, {[]int{1}, []int{2, 1}, 0, 2}, {[]int{2}, []int{1, 2}, 0, 2},
		{[]int{1, 2, 3}, []int{1, 2, 3}, -1, 0}, {[]int{1, 2, 3}, []int{1, 5}, 1, 2}, {[]int{1, 2, 3}, []int{1, 2}, 2, 1}, {[]int{1, 2, 3}, []int{3}, 0, 3},
		{[]int{1, 2, 3}, []int{2, 3}, 0, 3}, {[]int{1, 2, 3}, []int{3, 2, 1}, 0, 2}, {[]int{1, 2, 3}, []int{2, 1, 3}, 0, 2}, {[]int{1, 2, 3}, []int{1, 3, 2}, 1, 2},
		{[]int{1, 2, 3}, []int{4, 5, 6}, 0, 3}, {[]int{1, 2, 3}, []int{9, 2, 3}, 0, 1}, {[]int{1, 2, 3}, []int{1, 9, 3}, 1, 1}, {[]int{1, 2, 3}, []int{1, 2, 9}, 2, 1},
		{[]int{1, 2, 3}, []int{9, 2, 9}, 0, 2}, {[]int{1, 2, 3}, []int{1, 9, 3, 4, 5}, 1, 3}, {[]int{1, 2, 3}, []int{1, 2, 3, 0, 0}, 3, 2},
		{repeated(7, 40), repeated(7, 41), 40, 1}, {repeated(7, 13), repeated(7, 40), 13, 27}, {repeated(7, 40), repeated(8, 12), 0, 40},
		{[]int{math.MinInt}, []int{math.MaxInt}, 0, 1}, {[]int{math.MinInt}, []int{math.MinInt}, -1, 0}, {[]int{math.MaxInt}, []int{math.MaxInt}, -1, 0},
		{[]int{5, math.MinInt}, []int{5, 0}, 1, 1}, {[]int{math.MaxInt, 5}, []int{-1, 5}, 0, 1}, {[]int{math.MinInt}, nil, 0, 1},
		{[]int{1 << 32}, []int{0}, 0, 1}, {[]int{hashes}, []int{0}, 0, 1}, {[]int{-5}, []int{hashes - 5}, 0, 1},
	}
	for _, r := range rows {
		checkDiffer(t, r.a, r.b, r.first, r.many)
	}
}

func TestDifferByDefinition(t *testing.T) {
	eachTwoLists(func(a, b []int) { checkByDefinition(t, a, b) })
}

func TestDifferOfAllShortLists(t *testing.T) {
	eachShortList(5, func(a []int) {
		eachShortList(5, func(b []int) { checkByDefinition(t, a, b) })
	})
}

// Each number differs from all others, also from those that are alike in their
// lower bits or far away.
func TestDifferOfAllNumbers(t *testing.T) {
	for _, n := range someNumbers() {
		for _, m := range someNumbers() {
			first, many := 0, 1
			if n == m {
				first, many = -1, 0
			}
			checkDiffer(t, []int{n}, []int{m}, first, many)
			if n != m {
				first = 13
			}
			before, behind := repeated(m, 13), repeated(n, 13)
			checkDiffer(t, slices.Concat(before, []int{n}, behind), slices.Concat(before, []int{m}, behind), first, many)
		}
	}
}

// One list is a beginning of the other one.
func TestDifferOfBeginnings(t *testing.T) {
	for _, numbers := range [][]int{counted(75), repeated(0, 75), repeated(-1, 75)} {
		for _, n := range counted(76) {
			for _, m := range counted(76) {
				first := min(n, m)
				if n == m {
					first = -1
				}
				checkDiffer(t, numbers[:n], slices.Clone(numbers[:m]), first, max(n, m)-min(n, m))
			}
		}
	}
}

func TestDifferAtSeveralIndexes(t *testing.T) {
	for _, length := range listLengths() {
		list := counted(length)
		all := repeated(-1, length)
		if length > 0 {
			checkDiffer(t, list, all, 0, length)
			checkDiffer(t, list, append(slices.Clone(list[:length-1]), -1), length-1, 1)
			checkDiffer(t, list, slices.Concat([]int{-1}, list[1:]), 0, 1)
			checkDiffer(t, list, list[1:], 0, length)
		}
		for _, from := range []int{0, 1, length / 3, length / 2, length - 2, length - 1} {
			if from < 0 || from >= length {
				continue
			}
			checkDiffer(t, list, slices.Concat(list[:from], all[from:]), from, length-from)
			checkDiffer(t, list, slices.Concat(all[from:], list[length-from:]), 0, length-from)
			checkDiffer(t, list, slices.Concat(list[:from], all[from:], []int{1, 2}), from, length-from+2)
			checkByDefinition(t, list, changedAt(all, from, from))
		}
	}
}

func TestDifferOfLongLists(t *testing.T) {
	long := counted(300000)
	for _, length := range []int{65535, 65536, 65537, 99999, 300000} {
		list := long[:length]
		checkDiffer(t, list, slices.Clone(list), -1, 0)
		checkDiffer(t, list, nil, 0, length)
		checkDiffer(t, list, list[:length-1], length-1, 1)
		checkDiffer(t, list, list[:7], 7, length-7)
		for _, index := range []int{0, 1, length / 12, length/12 - 1, length / 2, length - length/12, length - 1} {
			checkDiffer(t, list, changedAt(list, index, -1), index, 1)
			checkByDefinition(t, list, changedAt(list, index, -1)[:length-5])
		}
	}
}

// What is behind a list in memory does not count.
func TestWhatIsBehindTheHashesIsIgnored(t *testing.T) {
	list, other := counted(20), counted(20)
	other[12] = -1
	for n := range 21 {
		first, many := -1, 0
		if n > 12 {
			first, many = 12, 1
		}
		checkDiffer(t, list[:n], other[:n], first, many)
		checkDiffer(t, list[:n], list[:n], -1, 0)
	}
	checkDiffer(t, list[:5], list[:9], 5, 4)
	right := impl.RunHashes(openLevel(), drives(20))
	checkReport(t, openLevel(), drives(20), right[:2], reportOf(2, 10, 15), true)
	checkReport(t, openLevel(), drives(20)[:13], right[:2], report{}, false)
}

func TestReportRows(t *testing.T) {
	// The hashes of 20 drives, which TestRunRows has as well.
	right := []int{968954, 39305, 878975, 718642}
	rows := []struct {
		inputs  int
		claimed []int
		want    report
		wantOk  bool
	}{
		{20, right, report{}, false},
		{20, nil, reportOf(0, 0, 5), true}, {20, []int{}, reportOf(0, 0, 5), true}, {20, right[:1], reportOf(1, 5, 10), true},
		{20, right[:2], reportOf(2, 10, 15), true}, {20, right[:3], reportOf(3, 15, 20), true},
		{20, append(slices.Clone(right), 0), reportOf(4, 20, 20), true}, {20, append(slices.Clone(right), 1, 2, 3, 4), reportOf(4, 20, 20), true},
		{20, []int{0, 39305, 878975, 718642}, reportOf(0, 0, 5), true}, {20, []int{968954, 0, 878975, 718642}, reportOf(1, 5, 10), true},
		{20, []int{968954, 39305, 0, 718642}, reportOf(2, 10, 15), true}, {20, []int{968954, 39305, 878975, 0}, reportOf(3, 15, 20), true},
		{20, []int{968954, 0, 0, 0}, reportOf(1, 5, 10), true}, {20, []int{968954, 39305, 0}, reportOf(2, 10, 15), true}, {20, []int{968954, 0, 878975, 0, 1}, reportOf(1, 5, 10), true},
		{20, []int{39305, 968954, 878975, 718642}, reportOf(0, 0, 5), true}, {20, right[1:], reportOf(0, 0, 5), true},
		{19, right[:3], report{}, false}, {19, right, reportOf(3, 15, 19), true}, {16, right, reportOf(3, 15, 16), true}, {15, right, reportOf(3, 15, 15), true}, {15, right[:3], report{}, false},
		{11, right[:2], report{}, false}, {11, right[:3], reportOf(2, 10, 11), true}, {10, right[:2], report{}, false}, {10, right[:3], reportOf(2, 10, 10), true},
		{10, right[:1], reportOf(1, 5, 10), true}, {9, right[:1], report{}, false}, {9, right[:2], reportOf(1, 5, 9), true}, {9, nil, reportOf(0, 0, 5), true},
		{7, []int{968954, 7}, reportOf(1, 5, 7), true}, {7, []int{7}, reportOf(0, 0, 5), true}, {7, nil, reportOf(0, 0, 5), true},
		// Every, one less and one more; fewer; and none.
		{6, nil, reportOf(0, 0, 5), true}, {6, right[:1], report{}, false}, {6, right[:2], reportOf(1, 5, 6), true},
		{5, nil, reportOf(0, 0, 5), true}, {5, right[:1], report{}, false}, {5, right[:2], reportOf(1, 5, 5), true}, {5, []int{0}, reportOf(0, 0, 5), true},
		{4, nil, report{}, false}, {4, []int{}, report{}, false}, {4, right[:1], reportOf(0, 0, 4), true}, {4, right, reportOf(0, 0, 4), true},
		{1, nil, report{}, false}, {1, []int{-1}, reportOf(0, 0, 1), true}, {0, nil, report{}, false}, {0, []int{}, report{}, false},
		{0, right, reportOf(0, 0, 0), true}, {0, []int{17}, reportOf(0, 0, 0), true}, {0, []int{0, 0}, reportOf(0, 0, 0), true},
	}
	for _, r := range rows {
		checkReport(t, openLevel(), drives(r.inputs), r.claimed, r.want, r.wantOk)
	}
}

func TestReportsByDefinition(t *testing.T) {
	reports, none := 0, 0
	eachClaim(func(l level, list []input, claimed []int) {
		want, wantOk := reportByDefinition(l, list, claimed)
		checkReport(t, l, list, claimed, want, wantOk)
		if wantOk {
			reports++
		} else {
			none++
		}
	})
	if reports < 1000 || none < 100 {
		t.Errorf("there are %d reports, and %d claims without one", reports, none)
	}
}

// With each number of inputs, To is the number of inputs or ahead of it.
func TestToAtEachNumberOfInputs(t *testing.T) {
	for _, base := range []level{openLevel(), laneLevel(3), edgeLevel(), corridorLevel()} {
		l := withTicks(base, maxTicks)
		all := hashesOfRun(l, drives(maxTicks))
		for inputs := range maxTicks + 1 {
			list, right := drives(inputs), all[:inputs/5]
			checkReport(t, l, list, right, report{}, false)
			for index := range right {
				want := report{Index: index, From: 5 * index, To: 5*index + 5}
				checkReport(t, l, list, right[:index], want, true)
				for _, wrong := range wrongHashes(right[index]) {
					checkReport(t, l, list, changedAt(right, index, wrong), want, true)
				}
			}
			want := report{Index: len(right), From: 5 * len(right), To: inputs}
			for _, more := range [][]int{{0}, {-1, -1}, {17}, repeated(math.MaxInt, 3), repeated(4, 300)} {
				checkReport(t, l, list, slices.Concat(right, more), want, true)
			}
		}
	}
}

// A great many claimed hashes are no more than too many.
func TestManyClaimedHashes(t *testing.T) {
	right := hashesOfRun(openLevel(), drives(20))
	many := slices.Concat(right, counted(200000))
	checkReport(t, openLevel(), drives(20), many, reportOf(4, 20, 20), true)
	checkReport(t, openLevel(), drives(18), many, reportOf(3, 15, 18), true)
	checkReport(t, openLevel(), nil, many, report{}, true)
	checkReport(t, openLevel(), drives(20), counted(200000), report{To: 5}, true)
	checkNoReport(t, openLevel(), drives(21))
	checkReport(t, openLevel(), drives(21), many, report{}, false)
}

// Behind the finish, and out of range, the hash stays as it is.
func TestReportsBehindTheEnd(t *testing.T) {
	l := laneLevel(5)
	checkReport(t, l, drives(12), []int{968955, 968955}, report{}, false)
	checkReport(t, l, drives(12), []int{968955}, reportOf(1, 5, 10), true)
	checkReport(t, l, drives(12), []int{968955, 39305}, reportOf(1, 5, 10), true)
	checkReport(t, l, drives(12), []int{968955, 968955, 968955}, reportOf(2, 10, 12), true)
	// It would be that of a run without a finish.
	checkReport(t, l, drives(12), []int{968954, 968955}, reportOf(0, 0, 5), true)
	out := hashesOfRun(edgeLevel(), drives(20))
	checkReport(t, edgeLevel(), drives(20), out, report{}, false)
	checkReport(t, edgeLevel(), drives(20), changedAt(out, 3, 0), reportOf(3, 15, 20), true)
	checkReport(t, edgeLevel(), drives(17), out, reportOf(3, 15, 17), true)
}

func TestNoReportOfNoRuns(t *testing.T) {
	eachDrive(func(l level, list []input) {
		for _, bad := range noRuns(l, list) {
			checkNoReport(t, l, bad)
			// The hashes of what is legal at the beginning are not those of a run.
			legal := bad[:legalByDefinition(l, bad)]
			checkReport(t, l, bad, hashesOfRun(l, legal), report{}, false)
			checkReport(t, l, bad, hashesOfRun(l, list), report{}, false)
		}
	})
	for _, l := range append(invalidLevels(), level{}) {
		for _, list := range [][]input{nil, {}, drives(1), drives(5), rolls(12), {{Steer: 2}}} {
			checkNoReport(t, l, list)
		}
	}
}

func TestNoReportOfIllegalInputs(t *testing.T) {
	l := withTicks(openLevel(), 12)
	right := hashesOfRun(l, drives(12))
	for index := range 12 {
		for _, x := range invalidInputs() {
			list := drives(12)
			list[index] = x
			checkNoReport(t, l, list)
			checkReport(t, l, list, right, report{}, false)
			checkReport(t, l, list, right[:index/5], report{}, false)
		}
	}
	for _, list := range [][]input{
		append(drives(11), steer(-1), steer(1)), drives(13), rolls(13), rolls(300000), slices.Concat(pauses(4), drives(5)), slices.Concat(drives(5), pauses(4)),
	} {
		checkNoReport(t, l, list)
		checkReport(t, l, list, right, report{}, false)
	}
	for _, list := range [][]input{append(drives(5), pause()), append(drives(5), brake())} {
		checkNoReport(t, withBans(l, banBrake+banPause), list)
		checkReport(t, l, list, hashesOfRun(l, list), report{}, false)
		checkReport(t, l, list, nil, report{To: 5}, true)
	}
}

// What is behind a slice in memory is not touched either.
func TestDivergenceLeavesItsLists(t *testing.T) {
	eachTwoLists(func(a, b []int) {
		left, right := slices.Concat(a, []int{5, -5, 5}), slices.Concat(b, []int{7, -7, 7})
		leftBefore, rightBefore := slices.Clone(left), slices.Clone(right)
		impl.DivergeFirst(left[:len(a)], right[:len(b)])
		impl.DivergeCount(left[:len(a)], right[:len(b)])
		if !slices.Equal(left, leftBefore) || !slices.Equal(right, rightBefore) {
			t.Errorf("%v or %v was changed", shown(leftBefore), shown(rightBefore))
		}
	})
}

func TestReportsLeaveTheirArguments(t *testing.T) {
	draw := rand.New(rand.NewSource(32))
	for _, l := range slices.Concat(engineLevels(), raceLevels(), invalidLevels()) {
		walls := slices.Concat(l.Walls, []box{boxOf(1, 2, 3, 4)})
		gates := slices.Concat(l.Gates, []box{boxOf(11, 12, 13, 14)})
		part := withWalls(withGates(l, gates[:len(l.Gates)]...), walls[:len(l.Walls)]...)
		run := drives(7)
		if impl.LevelValid(l) {
			run = drawnDrive(l, draw)
		}
		list := slices.Concat(run, []input{{Steer: 1, Power: powerGo}, pause()})
		wallsBefore, gatesBefore, listBefore := slices.Clone(walls), slices.Clone(gates), slices.Clone(list)
		right := impl.RunHashes(l, run)
		for _, claimed := range [][]int{right, right[:len(right)/2], slices.Concat(right, []int{4})} {
			whole := slices.Concat(claimed, []int{6, -6})
			wholeBefore := slices.Clone(whole)
			impl.DivergeReport(part, list[:len(run)], whole[:len(claimed)])
			if !slices.Equal(whole, wholeBefore) {
				t.Errorf("%v was changed to %v", wholeBefore, whole)
			}
		}
		if !slices.Equal(walls, wallsBefore) || !slices.Equal(gates, gatesBefore) {
			t.Errorf("the walls or the gates of %v were changed", shownLevel(l))
		}
		if !slices.Equal(list, listBefore) {
			t.Errorf("%s in %v were changed", shownInputs(listBefore), shownLevel(l))
		}
	}
}

func TestDivergenceKeepsNoState(t *testing.T) {
	right := []int{968954, 39305, 878975, 718642}
	for range 3 {
		checkDiffer(t, []int{1, 2, 3}, []int{1, 5}, 1, 2)
		checkDiffer(t, counted(40), counted(40), -1, 0)
		checkDiffer(t, nil, nil, -1, 0)
		checkDiffer(t, counted(40), nil, 0, 40)
		checkReport(t, openLevel(), drives(20), right, report{}, false)
		checkReport(t, openLevel(), drives(20), right[:3], reportOf(3, 15, 20), true)
		checkReport(t, openLevel(), []input{{Steer: 2}}, right, report{}, false)
		checkReport(t, openLevel(), nil, right, report{}, true)
	}
}

// Whoever compares hashes has ended once the call returns.
func TestDivergenceLeavesNothingRunning(t *testing.T) {
	before := runtime.NumGoroutine()
	for range 50 {
		for _, length := range []int{0, 1, 5, 12, 13, 700} {
			impl.DivergeFirst(counted(length), counted(9))
			impl.DivergeCount(counted(length), counted(9))
			impl.DivergeReport(openLevel(), drives(20), counted(length))
			impl.DivergeReport(openLevel(), drives(21), counted(length))
			impl.DivergeReport(level{}, nil, counted(length))
		}
	}
	checkNoneRunning(t, before)
}

// Nothing reads a list any more once the call returns, and all its numbers were
// read by then.
func TestListsThatAreUsedAgain(t *testing.T) {
	a, b := make([]int, 1000), make([]int, 1000)
	for round := range 2000 {
		index := (round * 37) % len(a)
		b[index]++
		checkDiffer(t, a, b, index, 1)
		a[index]++
		checkDiffer(t, a, b, -1, 0)
	}
}

func TestDivergenceAtTheSameTime(t *testing.T) {
	long, other := counted(5000), changedAt(counted(5000), 4321, -1)
	right := impl.RunHashes(openLevel(), drives(20))
	var group sync.WaitGroup
	for range 8 {
		group.Add(1)
		go func() {
			defer group.Done()
			for range 50 {
				checkDiffer(t, long, other, 4321, 1)
				checkDiffer(t, long, other[:4000], 4000, 1000)
				checkReport(t, openLevel(), drives(20), right, report{}, false)
				checkReport(t, openLevel(), drives(20), right[:1], reportOf(1, 5, 10), true)
			}
		}()
	}
	group.Wait()
}
