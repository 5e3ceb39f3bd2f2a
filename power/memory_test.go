package power

import (
	"slices"
	"testing"
)

// A crowd's list is new memory: changing it, its spare room too, changes nothing that is told later or was told before.
func TestP135CrowdsAnswerNewLists(t *testing.T) {
	k := keeperOf(t, -3, 3)
	first, _ := k.Crowd(1, 5)
	kept := slices.Clone(first)
	second, _ := k.Crowd(1, 5)
	for i := range second[:cap(second)] {
		second[:cap(second)][i] = 99
	}
	if !slices.Equal(first, kept) {
		t.Errorf("one crowd's list became %x as another's was changed", first)
	}
	crowdIs(t, k, 1, 5)
	for n := -3; n <= 3; n++ {
		keptIs(t, k, n)
	}
	crowdIs(t, k, -1, 16)
	keptIs(t, k, 2)
	if !slices.Equal(first, kept) {
		t.Errorf("a crowd's list became %x by later calls", first)
	}
}
