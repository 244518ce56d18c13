package tests

import (
	"math"
	"math/big"
	"math/rand"
	"slices"
	"testing"

	"loop.example/replayverifier/impl"
)

const (
	hashes  = impl.Hashes
	maxKey  = impl.MaxKey
	maxList = impl.MaxList
)

// hashedNumbers returns numbers in range: those of chapter 1, and the multiples
// of Hashes of either sign with the numbers next to them.
func hashedNumbers() []int {
	list := fixedNumbers()
	for _, factor := range []int{1, 2, 3, 1000, fixMax/hashes - 1, fixMax / hashes} {
		for _, step := range []int{-2, -1, 0, 1, 2} {
			list = append(list, factor*hashes+step, -factor*hashes+step)
		}
	}
	return list
}

// repeated returns a list with the same number at each index.
func repeated(n, length int) []int {
	return slices.Repeat([]int{n}, length)
}

// drawnList returns numbers of either sign whose size is at most the given one.
func drawnList(draw *rand.Rand, length, size int) []int {
	list := make([]int, length)
	for i := range list {
		list[i] = draw.Intn(2*size+1) - size
	}
	return list
}

// numberLists returns lists: the empty one, each number alone, the same number
// all over, and lists of all kinds of lengths that are drawn.
func numberLists() [][]int {
	lists := [][]int{nil, {}}
	for _, n := range hashedNumbers() {
		lists = append(lists, []int{n})
	}
	for _, n := range []int{0, 1, -1, hashes, -hashes, hashes - 1, 1 - hashes, fixMax, -fixMax} {
		lists = append(lists, repeated(n, 2), repeated(n, maxList-1), repeated(n, maxList))
	}
	draw := rand.New(rand.NewSource(4))
	for _, length := range []int{2, 3, 10, 60, maxList - 1, maxList} {
		for _, size := range []int{1, 100, hashes, fixMax} {
			lists = append(lists, drawnList(draw, length, size))
		}
	}
	return lists
}

// invalidLists returns lists that are too long, and lists with one number out
// of range at the beginning, in the middle or at the end.
func invalidLists() [][]int {
	lists := [][]int{
		repeated(0, maxList+1), repeated(-1, maxList+1), repeated(fixMax, maxList+1),
		repeated(0, maxList+2), repeated(7, 2*maxList), repeated(0, 70000),
		append(repeated(0, maxList), fixMax+1),
	}
	for _, n := range outsideNumbers() {
		for _, length := range []int{1, 2, 3, maxList} {
			for _, index := range []int{0, length / 2, length - 1} {
				list := repeated(5, length)
				list[index] = n
				lists = append(lists, list)
			}
		}
	}
	return lists
}

func hashedKeys() []int {
	return []int{1, 2, 7, 17, 8190, 8191, maxKey - 1, maxKey}
}

func outsideKeys() []int {
	return []int{
		0, -1, -2, -7, -maxKey, -maxKey - 1, maxKey + 1, maxKey + 2, 2 * maxKey,
		hashes, hashes + 1, -hashes, 1 - hashes, fixMax, -fixMax,
		1 << 16, 1<<16 + 1, math.MaxInt32, math.MinInt32,
		math.MaxInt - 1, math.MaxInt, math.MinInt + 1, math.MinInt,
	}
}

// eachChange calls check for a list and lists that differ from it in exactly
// one number, by less than Hashes.
func eachChange(list []int, check func(changed []int)) {
	indexes := []int{0, 1, len(list) / 2, len(list) - 2, len(list) - 1}
	slices.Sort(indexes)
	for _, index := range slices.Compact(indexes) {
		if index < 0 || index >= len(list) {
			continue
		}
		for _, step := range []int{1, 2, 8190, 8191, hashes / 2, hashes - 2, hashes - 1} {
			for _, n := range []int{list[index] + step, list[index] - step} {
				if size(n) <= fixMax {
					changed := slices.Clone(list)
					changed[index] = n
					check(changed)
				}
			}
		}
	}
}

// hashByDefinition continues 17 by all numbers, in integers without a limit.
// Mod of math/big is never negative.
func hashByDefinition(numbers ...int) int {
	hash, modulus := big.NewInt(17), big.NewInt(hashes)
	for _, n := range numbers {
		number := big.NewInt(int64(n))
		hash.Mul(hash, big.NewInt(8191))
		hash.Add(hash, number.Mod(number, modulus))
		hash.Add(hash, big.NewInt(1))
		hash.Mod(hash, modulus)
	}
	return int(hash.Int64())
}

func tagByDefinition(key int, list []int) int {
	return hashByDefinition(slices.Concat([]int{key}, list, []int{key})...)
}

// shown shortens a list for a message.
func shown(list []int) []int {
	return list[:min(len(list), 5)]
}

func checkHash(t *testing.T, list []int, want int) {
	t.Helper()
	if got := impl.HashInts(list); got != want {
		t.Errorf("HashInts of %d numbers %v = %d, want %d", len(list), shown(list), got, want)
	}
}

func checkTag(t *testing.T, key int, list []int, want int) {
	t.Helper()
	if got := impl.TagOf(key, list); got != want {
		t.Errorf("TagOf(%d) of %d numbers %v = %d, want %d", key, len(list), shown(list), got, want)
	}
}

func checkTagCheck(t *testing.T, key int, list []int, tag int, want bool) {
	t.Helper()
	if got := impl.TagCheck(key, list, tag); got != want {
		t.Errorf("TagCheck(%d) of %d numbers %v, tag %d = %v, want %v", key, len(list), shown(list), tag, got, want)
	}
}

func TestConstantsOfChapter4(t *testing.T) {
	if hashes != 1000003 || maxKey != 9999 || maxList != 200 {
		t.Errorf("Hashes is %d, MaxKey is %d, MaxList is %d", hashes, maxKey, maxList)
	}
}

func TestHashIntsRows(t *testing.T) {
	checkHash(t, nil, 17)
	checkHash(t, []int{}, 17)
	checkHash(t, []int{0}, 139248)
	checkHash(t, []int{1}, 139249)
	checkHash(t, []int{2}, 139250)
	checkHash(t, []int{1, 2}, 585142)
	checkHash(t, []int{2, 1}, 593332)
	// Multiples of Hashes and the numbers next to them.
	checkHash(t, []int{1000002}, 139247)
	checkHash(t, []int{1000003}, 139248)
	checkHash(t, []int{1000004}, 139249)
	checkHash(t, []int{1999 * 1000003}, 139248)
	// Both ends of the range.
	checkHash(t, []int{2000000000}, 133248)
	checkHash(t, []int{-2000000000}, 145248)
	// The last and the first hash.
	checkHash(t, []int{860754}, 1000002)
	checkHash(t, []int{860755}, 0)
	checkHash(t, []int{860756}, 1)
	// The longest lists.
	checkHash(t, repeated(0, 200), 275886)
	checkHash(t, repeated(2000000000, 200), 390062)
}

func TestHashIntsOfNegativeNumbers(t *testing.T) {
	checkHash(t, []int{-1}, 139247)
	checkHash(t, []int{-2}, 139246)
	checkHash(t, []int{-1, -2}, 568756)
	checkHash(t, []int{-1000002}, 139249)
	checkHash(t, []int{-1000003}, 139248)
	checkHash(t, []int{-1000004}, 139247)
	checkHash(t, []int{-1999 * 1000003}, 139248)
	checkHash(t, []int{-1999*1000003 - 1}, 139247)
	// A remainder with the sign of the number would make the sums around 0
	// negative.
	checkHash(t, []int{-139247}, 1)
	checkHash(t, []int{-139248}, 0)
	checkHash(t, []int{-139249}, 1000002)
	checkHash(t, []int{-139250}, 1000001)
	checkHash(t, []int{860755, -1}, 0)
	checkHash(t, []int{860755, -2}, 1000002)
	checkHash(t, repeated(-1, 200), 710573)
	checkHash(t, repeated(-2000000000, 200), 161710)
}

func TestTagOfRows(t *testing.T) {
	checkTag(t, 1, nil, 585141)
	checkTag(t, 1, []int{}, 585141)
	checkTag(t, 9999, nil, 488511)
	checkTag(t, 5, []int{1, 2}, 126919)
	checkTag(t, 6, []int{1, 2}, 990135)
	checkTag(t, 7, []int{-1}, 412858)
	checkTag(t, 7, []int{1000002}, 412858)
	checkTag(t, 1, repeated(0, 200), 414603)
	checkTag(t, 9999, repeated(-2000000000, 200), 814701)
	// The first and the last tag.
	checkTag(t, 1, []int{835692}, 0)
	checkTag(t, 1, []int{-164311}, 0)
	checkTag(t, 9999, []int{370592}, 1000002)
	checkTag(t, 9999, []int{-629411}, 1000002)
}

func TestTagCheckRows(t *testing.T) {
	checkTagCheck(t, 5, []int{1, 2}, 126919, true)
	checkTagCheck(t, 6, []int{1, 2}, 126919, false)
	checkTagCheck(t, 5, []int{2, 1}, 126919, false)
	checkTagCheck(t, 5, []int{1}, 126919, false)
	checkTagCheck(t, 5, []int{1, 2, 0}, 126919, false)
	checkTagCheck(t, 5, []int{1, 2}, 126918, false)
	checkTagCheck(t, 5, []int{1, 2}, 126920, false)
	checkTagCheck(t, 5, []int{1, 2}, -126919, false)
	checkTagCheck(t, 5, []int{1, 2}, 126919+hashes, false)
	checkTagCheck(t, 5, []int{1, 2}, 126919-hashes, false)
	checkTagCheck(t, 5, []int{1, 2}, -1, false)
	checkTagCheck(t, 1, nil, 585141, true)
	checkTagCheck(t, 1, []int{}, 585141, true)
	// 0 is a tag like all others.
	checkTagCheck(t, 1, []int{835692}, 0, true)
	checkTagCheck(t, 1, []int{835692}, -1, false)
	checkTagCheck(t, 1, []int{835692}, hashes, false)
	// The tag next to 0 in the other direction is not -1.
	checkTagCheck(t, 9999, []int{-629411}, 1000002, true)
	checkTagCheck(t, 9999, []int{-629411}, -1, false)
}

func TestHashesByDefinition(t *testing.T) {
	for _, list := range numberLists() {
		checkHash(t, list, hashByDefinition(list...))
		for _, key := range hashedKeys() {
			checkTag(t, key, list, tagByDefinition(key, list))
		}
	}
}

func TestHashesOfInvalidLists(t *testing.T) {
	for _, list := range invalidLists() {
		checkHash(t, list, -1)
		for _, key := range append(hashedKeys(), outsideKeys()...) {
			checkTag(t, key, list, -1)
			for _, tag := range []int{-1, 0, 1, 17, hashes - 1, math.MinInt, math.MaxInt} {
				checkTagCheck(t, key, list, tag, false)
			}
		}
	}
}

// The numbers at both ends of the range and the longest list are still valid.
func TestHashesAtTheLimits(t *testing.T) {
	for _, list := range [][]int{{fixMax}, {-fixMax}, repeated(fixMax, maxList), repeated(-fixMax, maxList)} {
		if impl.HashInts(list) < 0 {
			t.Errorf("HashInts of %d numbers %v fails", len(list), shown(list))
		}
		for _, key := range []int{1, maxKey} {
			tag := impl.TagOf(key, list)
			if tag < 0 || !impl.TagCheck(key, list, tag) {
				t.Errorf("TagOf(%d) of %d numbers %v = %d, which fails", key, len(list), shown(list), tag)
			}
		}
	}
}

func TestHashesLeaveTheirLists(t *testing.T) {
	for _, list := range append(numberLists(), invalidLists()...) {
		// What is behind the list in memory is not touched either.
		memory := slices.Concat(list, []int{11, 12, 13})
		before := slices.Clone(memory)
		part := memory[:len(list)]
		impl.HashInts(part)
		impl.TagCheck(7, part, impl.TagOf(7, part))
		impl.TagOf(0, part)
		if !slices.Equal(memory, before) {
			t.Errorf("the list of %d numbers %v was changed", len(list), shown(list))
		}
	}
}

func TestHashesKeepNoState(t *testing.T) {
	first, second := []int{3, -4, 5}, []int{-6}
	hash, tag := impl.HashInts(first), impl.TagOf(7, first)
	for range 3 {
		impl.HashInts(second)
		impl.TagOf(8, second)
		impl.TagCheck(0, second, 1)
		checkHash(t, first, hash)
		checkTag(t, 7, first, tag)
		checkTagCheck(t, 7, first, tag, true)
	}
}

func TestP48(t *testing.T) {
	for _, list := range numberLists() {
		hash := impl.HashInts(list)
		eachChange(list, func(changed []int) {
			if impl.HashInts(changed) == hash {
				t.Errorf("HashInts of %d numbers %v and of %v is %d", len(list), shown(list), shown(changed), hash)
			}
		})
	}
}

func TestP49(t *testing.T) {
	further := []int{0, 1, 2, 8190, 8191, 139247, 139248, 860754, 860755, 860756, hashes / 2, hashes - 2, hashes - 1}
	for _, list := range numberLists() {
		hash := impl.HashInts(list)
		for _, n := range further {
			longer := slices.Concat(list, []int{n})
			if len(longer) > maxList {
				checkHash(t, longer, -1)
			} else {
				checkHash(t, longer, (8191*hash+n+1)%hashes)
			}
		}
	}
}

func TestP50(t *testing.T) {
	checkHash(t, nil, 17)
	checkHash(t, []int{}, 17)
	checkHash(t, make([]int, 0, 300), 17)
	for _, list := range numberLists() {
		if hash := impl.HashInts(list); hash < 0 || hash >= hashes {
			t.Errorf("HashInts of %d numbers %v = %d", len(list), shown(list), hash)
		}
	}
	for _, list := range invalidLists() {
		checkHash(t, list, -1)
	}
}

func TestP51(t *testing.T) {
	for _, list := range numberLists() {
		for _, key := range hashedKeys() {
			tag := impl.TagOf(key, list)
			checkTagCheck(t, key, list, tag, true)
			others := []int{
				tag - 1, tag + 1, -tag - 1, tag + hashes, tag - hashes, tag + 2*hashes,
				-1, -2, hashes, hashes + 1, math.MinInt, math.MaxInt,
			}
			for _, other := range others {
				checkTagCheck(t, key, list, other, false)
			}
		}
	}
}

func TestP51ForAllTags(t *testing.T) {
	list := []int{-1, fixMax}
	for _, key := range []int{1, maxKey} {
		right := impl.TagOf(key, list)
		for tag := -1; tag <= hashes; tag++ {
			checkTagCheck(t, key, list, tag, tag == right)
		}
	}
}

func TestP52(t *testing.T) {
	for _, list := range numberLists() {
		for _, key := range []int{1, 7, maxKey} {
			tag := impl.TagOf(key, list)
			eachChange(list, func(changed []int) {
				checkTagCheck(t, key, changed, tag, false)
			})
		}
	}
}

func TestP53(t *testing.T) {
	for _, list := range numberLists() {
		for _, key := range outsideKeys() {
			checkTag(t, key, list, -1)
			checkTagCheck(t, key, list, -1, false)
			checkTagCheck(t, key, list, 0, false)
			checkTagCheck(t, key, list, tagByDefinition(key, list), false)
		}
		for _, key := range hashedKeys() {
			checkTagCheck(t, key, list, -1, false)
		}
	}
	for key := 1; key <= maxKey; key++ {
		if impl.TagOf(key, nil) < 0 {
			t.Errorf("TagOf(%d) fails", key)
		}
	}
}

func TestP54(t *testing.T) {
	numbers := hashedNumbers()
	for _, a := range numbers {
		for _, b := range slices.Concat(numbers, []int{a - 1, a + 1, a - hashes + 1, a + hashes - 1}) {
			if a == b || size(a-b) >= hashes || size(b) > fixMax {
				continue
			}
			if hash := impl.HashInts([]int{a, b}); hash < 0 || hash == impl.HashInts([]int{b, a}) {
				t.Errorf("HashInts of %d and %d is %d in either order", a, b, hash)
			}
		}
	}
}

func TestP55(t *testing.T) {
	keys := map[int]int{}
	for key := 1; key <= maxKey; key++ {
		tag := impl.TagOf(key, nil)
		if other, ok := keys[tag]; ok {
			t.Errorf("TagOf of no numbers is %d under the keys %d and %d", tag, other, key)
		}
		keys[tag] = key
	}
}
