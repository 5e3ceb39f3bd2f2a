package power

import (
	"math"
	"runtime"
	"strings"
	"testing"
	"time"

	"numeral/api"
)

// Any number of askers, of any power, asked first and behind other calls.
func TestP135Crowds(t *testing.T) {
	for askers := 1; askers <= api.MaxWorkers; askers++ {
		for _, n := range []int{-most, -1, 0, 1, 27, 28, 56, most} {
			fresh := keeperOf(t, n, n)
			crowdIs(t, fresh, n, askers)
			madeIs(t, fresh, 1)
		}
		k := keeperOf(t, -30, 30)
		keptIs(t, k, 7)
		for n := -30; n <= 30; n++ {
			crowdIs(t, k, n, askers)
			madeIs(t, k, 1)
			keptIs(t, k, n)
		}
	}
	all := keeperOf(t, -most, most)
	for n := -most; n <= most; n++ {
		crowdIs(t, all, n, 2)
	}
	madeIs(t, all, 1)
}

// A crowd of so many as may not be, or of a power that is not kept, which comes first, makes nothing.
func TestP135CrowdsThatMayNotBe(t *testing.T) {
	k := keeperOf(t, -3, 3)
	few := []int{0, -1, -16, api.MaxWorkers + 1, api.MaxWorkers + 2, 1 << 16, 1 << 32, 1<<32 + 1, math.MaxInt, math.MinInt}
	for _, made := range []int{0, 1} {
		for _, askers := range few {
			for n := -3; n <= 3; n++ {
				noCrowd(t, k, n, askers, api.ErrWorkers)
			}
			for _, n := range append(beyond(), -4, 4) {
				noCrowd(t, k, n, askers, api.ErrPower)
			}
		}
		for _, n := range append(beyond(), -4, 4) {
			noCrowd(t, k, n, 1, api.ErrPower)
			noCrowd(t, k, n, api.MaxWorkers, api.ErrPower)
		}
		madeIs(t, k, made)
		keptIs(t, k, 0)
	}
}

// askersAre waits till so many goroutines that a crowd began are there: those that are done may be there for a moment longer.
func askersAre(t *testing.T, want int) {
	t.Helper()
	stacks := make([]byte, 1<<20)
	there := 0
	for range 2000 {
		all := string(stacks[:runtime.Stack(stacks, true)])
		if there = strings.Count(all, "created by numeral/power.(*Keeper).Crowd"); there == want {
			return
		}
		time.Sleep(time.Millisecond)
	}
	t.Errorf("there are %d askers, not %d", there, want)
}

func TestP135NoGoroutineIsLeft(t *testing.T) {
	for range 50 {
		crowdIs(t, keeperOf(t, -9, 9), 9, api.MaxWorkers)
		noCrowd(t, keeperOf(t, -9, 9), 9, api.MaxWorkers+1, api.ErrWorkers)
	}
	askersAre(t, 0)
}

// While the powers are being made, all askers of a crowd wait for them: each is a goroutine of its own, and they ask at a time.
func TestP135AllAskAtATime(t *testing.T) {
	for _, askers := range []int{1, 11, api.MaxWorkers} {
		k := keeperOf(t, -3, 3)
		begun, goOn, done := make(chan struct{}), make(chan struct{}), make(chan struct{})
		go k.once.Do(func() {
			close(begun)
			<-goOn
			k.makeAll()
		})
		<-begun
		go func() {
			defer close(done)
			crowdIs(t, k, 3, askers)
		}()
		askersAre(t, askers)
		madeIs(t, k, 0)
		close(goOn)
		<-done
		madeIs(t, k, 1)
		askersAre(t, 0)
	}
}
