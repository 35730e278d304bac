package tests

import (
	"testing"

	"loop.example/g00789/impl"
)

func toldAccountFault(a impl.Account) int64 {
	for _, count := range []int64{a.Used, a.Excess, a.Given} {
		if count < 0 || impl.MaxCount < count {
			return impl.ErrRange
		}
	}
	if a.Debt < 0 || impl.MaxDebt < a.Debt {
		return impl.ErrRange
	}
	return impl.OK
}

// toldAccount is what the document says of a call on an account, read word for
// word and apart from the program.
func toldAccount(call string, a impl.Account) impl.AccountResult {
	if code := toldAccountFault(a); code != impl.OK {
		return refused(code)
	}
	switch {
	case call == "punish" && a.Debt == impl.MaxDebt:
		return impl.AccountResult{Account: a, Dropped: true}
	case call == "punish":
		a.Debt++
		return impl.AccountResult{Account: a}
	case call == "skip" && a.Debt == 0:
		return refused(impl.ErrNone)
	case call == "skip":
		a.Debt--
		return impl.AccountResult{Account: a}
	}
	count := map[string]*int64{"use": &a.Used, "late": &a.Excess, "give": &a.Given}[call]
	if *count == impl.MaxCount {
		return refused(impl.ErrFull)
	}
	*count++
	return impl.AccountResult{Account: a}
}

// eachAccount calls see with every account whose fields lie on both sides of
// each bound.
func eachAccount(see func(a impl.Account)) {
	counts := []int64{lowest, -1, 0, 1, 3, 4, impl.MaxCount - 1, impl.MaxCount, impl.MaxCount + 1, highest}
	debts := []int64{lowest, -1, 0, 1, 2, 3, 4, 1 << 32, highest}
	eachList(3, counts, func(list []int64) {
		for _, debt := range debts {
			see(accountOf(list[0], list[1], list[2], debt))
		}
	})
}

// Promise 1: every call on every such account answers what the document tells,
// the same one twice, and leaves the account as it was.
func TestEveryCallOnAccounts(t *testing.T) {
	eachAccount(func(a impl.Account) {
		before := a
		wantCode(t, "fault", impl.AccountFault(a), toldAccountFault(a))
		for _, call := range accountCalls {
			want := toldAccount(call, a)
			first, second := accountAnswer(call, a), accountAnswer(call, a)
			if first != want || second != want || a != before {
				t.Fatalf("%s of %v: %v and %v, want %v", call, before, first, second, want)
			}
		}
	})
}

// Promise 3: what comes by punishing goes by skipping, and what is put off by
// skipping comes back by punishing; nothing else of the account is turned.
func TestDebtComesAndGoes(t *testing.T) {
	eachAccount(func(a impl.Account) {
		if impl.AccountFault(a) != impl.OK {
			return
		}
		punished := impl.PunishAccount(a)
		if punished.Code != impl.OK || punished.Dropped != (a.Debt == impl.MaxDebt) {
			t.Fatal("punish", a, punished)
		}
		if punished.Dropped && punished.Account != a {
			t.Fatal("a drop turned", a, punished)
		}
		if back := impl.SkipAccount(punished.Account); !punished.Dropped && back != (impl.AccountResult{Account: a}) {
			t.Fatal("punish and skip", a, punished, back)
		}
		skipped := impl.SkipAccount(a)
		if (skipped.Code == impl.ErrNone) != (a.Debt == 0) {
			t.Fatal("skip", a, skipped)
		}
		if back := impl.PunishAccount(skipped.Account); skipped.Code == impl.OK && back != (impl.AccountResult{Account: a}) {
			t.Fatal("skip and punish", a, skipped, back)
		}
	})
}

// Promise 3: no tick turns what is owed, whether it is used or given.
func TestTicksTurnNoDebt(t *testing.T) {
	eachAccount(func(a impl.Account) {
		for _, call := range []string{"use", "late", "give"} {
			if r := accountAnswer(call, a); r.Code == impl.OK && (r.Account.Debt != a.Debt || r.Dropped) {
				t.Fatal(call, a, r)
			}
		}
	})
}

// Promise 3: over long rows of calls the debt is how many punishments were not
// dropped, less the skips, and never leaves its bounds; each counter is how
// often it was told.
func TestDebtIsWhatWasPunishedLessWhatWasSkipped(t *testing.T) {
	var chance steps
	for range 200 {
		var a, want impl.Account
		for range 100 {
			call := accountCalls[chance.below(5)]
			r := accountAnswer(call, a)
			switch {
			case call == "use":
				want.Used++
			case call == "late":
				want.Excess++
			case call == "give":
				want.Given++
			case call == "punish" && !r.Dropped:
				want.Debt++
			case call == "skip" && r.Code == impl.OK:
				want.Debt--
			}
			if r.Code == impl.OK {
				a = r.Account
			}
			if a != want || impl.AccountFault(a) != impl.OK || a.Debt < 0 || a.Debt > 3 {
				t.Fatal(call, r, a, want)
			}
		}
	}
}

// From 0 on each counter goes as far as it may, and is refused from then on.
func TestCountersGoFromZeroToTheirBounds(t *testing.T) {
	for _, c := range []struct {
		call string
		most impl.Account
	}{
		{"use", accountOf(1000000, 0, 0, 0)},
		{"late", accountOf(0, 1000000, 0, 0)},
		{"give", accountOf(0, 0, 1000000, 0)},
	} {
		var a impl.Account
		for step := range 1000000 {
			r := accountAnswer(c.call, a)
			if r.Code != impl.OK {
				t.Fatal(c.call, "is refused behind", step, r)
			}
			a = r.Account
		}
		if a != c.most {
			t.Error(c.call, a, "want", c.most)
		}
		for range 3 {
			if r := accountAnswer(c.call, a); r != refused(impl.ErrFull) {
				t.Error(c.call, "of a full one", r)
			}
		}
	}
}
