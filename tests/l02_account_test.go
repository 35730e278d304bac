package tests

import (
	"testing"

	"loop.example/g00789/impl"
)

func TestNumbersOfAccounts(t *testing.T) {
	if impl.MaxDebt != 3 || impl.MaxCount != 1000000 {
		t.Error("constants", impl.MaxDebt, impl.MaxCount)
	}
}

func TestAccountFault(t *testing.T) {
	cases := []struct {
		name    string
		account impl.Account
		want    int64
	}{
		{"zero", impl.Account{}, impl.OK},
		{"one of each", impl.Account{Used: 1, Excess: 1, Given: 1, Debt: 1}, impl.OK},
		{"each at its bound", impl.Account{Used: 1000000, Excess: 1000000, Given: 1000000, Debt: 3}, impl.OK},
		{"used at its bound", impl.Account{Used: 1000000}, impl.OK},
		{"excess at its bound", impl.Account{Excess: 1000000}, impl.OK},
		{"given at its bound", impl.Account{Given: 1000000}, impl.OK},
		{"debt at its bound", impl.Account{Debt: 3}, impl.OK},
		{"used above", impl.Account{Used: 1000001}, impl.ErrRange},
		{"excess above", impl.Account{Excess: 1000001}, impl.ErrRange},
		{"given above", impl.Account{Given: 1000001}, impl.ErrRange},
		{"debt above", impl.Account{Debt: 4}, impl.ErrRange},
		{"used below", impl.Account{Used: -1}, impl.ErrRange},
		{"excess below", impl.Account{Excess: -1}, impl.ErrRange},
		{"given below", impl.Account{Given: -1}, impl.ErrRange},
		{"debt below", impl.Account{Debt: -1}, impl.ErrRange},
		{"the highest used", impl.Account{Used: highest}, impl.ErrRange},
		{"the highest excess", impl.Account{Excess: highest}, impl.ErrRange},
		{"the highest given", impl.Account{Given: highest}, impl.ErrRange},
		{"the highest debt", impl.Account{Debt: highest}, impl.ErrRange},
		{"the lowest used", impl.Account{Used: lowest}, impl.ErrRange},
		{"the lowest excess", impl.Account{Excess: lowest}, impl.ErrRange},
		{"the lowest given", impl.Account{Given: lowest}, impl.ErrRange},
		{"the lowest debt", impl.Account{Debt: lowest}, impl.ErrRange},
		{"beyond 32 bits", impl.Account{Used: 1 << 32, Debt: 1 << 32}, impl.ErrRange},
		{"a debt as far as a counter goes", impl.Account{Debt: 1000000}, impl.ErrRange},
		{"all below", impl.Account{Used: -1, Excess: -1, Given: -1, Debt: -1}, impl.ErrRange},
		{"all above", impl.Account{Used: 1000001, Excess: 1000001, Given: 1000001, Debt: 4}, impl.ErrRange},
		{"one below and one above", impl.Account{Used: -1, Excess: 1000001}, impl.ErrRange},
		{"two that make up for each other", impl.Account{Given: 1000001, Debt: -1}, impl.ErrRange},
	}
	for _, c := range cases {
		wantCode(t, c.name, impl.AccountFault(c.account), c.want)
	}
}

// accountCalls are the calls by their names; a tick is used late or in time.
var accountCalls = []string{"use", "late", "give", "punish", "skip"}

func accountAnswer(call string, a impl.Account) impl.AccountResult {
	switch call {
	case "use":
		return impl.UseTick(a, false)
	case "late":
		return impl.UseTick(a, true)
	case "give":
		return impl.GiveTick(a)
	case "punish":
		return impl.PunishAccount(a)
	}
	return impl.SkipAccount(a)
}

func accountOf(used, excess, given, debt int64) impl.Account {
	return impl.Account{Used: used, Excess: excess, Given: given, Debt: debt}
}

func done(used, excess, given, debt int64) impl.AccountResult {
	return impl.AccountResult{Account: accountOf(used, excess, given, debt)}
}

func refused(code int64) impl.AccountResult {
	return impl.AccountResult{Code: code}
}

func TestAccountCalls(t *testing.T) {
	const most = 1000000
	cases := []struct {
		call    string
		account impl.Account
		want    impl.AccountResult
	}{
		{"use", accountOf(0, 0, 0, 0), done(1, 0, 0, 0)},
		{"use", accountOf(5, 6, 7, 2), done(6, 6, 7, 2)},
		{"use", accountOf(most-1, 0, 0, 0), done(most, 0, 0, 0)},
		{"use", accountOf(most, 0, 0, 0), refused(impl.ErrFull)},
		{"use", accountOf(0, most, most, 3), done(1, most, most, 3)},
		{"use", accountOf(most, most, most, 3), refused(impl.ErrFull)},
		{"late", accountOf(0, 0, 0, 0), done(0, 1, 0, 0)},
		{"late", accountOf(5, 6, 7, 2), done(5, 7, 7, 2)},
		{"late", accountOf(0, most-1, 0, 0), done(0, most, 0, 0)},
		{"late", accountOf(0, most, 0, 0), refused(impl.ErrFull)},
		{"late", accountOf(most, 0, most, 3), done(most, 1, most, 3)},
		{"late", accountOf(most, most, most, 3), refused(impl.ErrFull)},
		{"give", accountOf(0, 0, 0, 0), done(0, 0, 1, 0)},
		{"give", accountOf(5, 6, 7, 2), done(5, 6, 8, 2)},
		{"give", accountOf(0, 0, most-1, 0), done(0, 0, most, 0)},
		{"give", accountOf(0, 0, most, 0), refused(impl.ErrFull)},
		{"give", accountOf(most, most, 0, 3), done(most, most, 1, 3)},
		{"punish", accountOf(0, 0, 0, 0), done(0, 0, 0, 1)},
		{"punish", accountOf(5, 6, 7, 1), done(5, 6, 7, 2)},
		{"punish", accountOf(most, most, most, 2), done(most, most, most, 3)},
		{"punish", accountOf(0, 0, 0, 3), impl.AccountResult{Account: accountOf(0, 0, 0, 3), Dropped: true}},
		{"punish", accountOf(5, 6, 7, 3), impl.AccountResult{Account: accountOf(5, 6, 7, 3), Dropped: true}},
		{"skip", accountOf(0, 0, 0, 0), refused(impl.ErrNone)},
		{"skip", accountOf(5, 6, 7, 0), refused(impl.ErrNone)},
		{"skip", accountOf(0, 0, 0, 1), done(0, 0, 0, 0)},
		{"skip", accountOf(5, 6, 7, 2), done(5, 6, 7, 1)},
		{"skip", accountOf(most, most, most, 3), done(most, most, most, 2)},
	}
	for _, c := range cases {
		if got := accountAnswer(c.call, c.account); got != c.want {
			t.Errorf("%s of %v: %v, want %v", c.call, c.account, got, c.want)
		}
	}
}

// The fault is asked ahead of what each call asks by itself, also where it lies
// in a field that the call does not turn.
func TestAccountCallsAskTheFaultFirst(t *testing.T) {
	const most = 1000000
	for _, a := range []impl.Account{
		accountOf(-1, most, most, 0), accountOf(most, -1, most, 0), accountOf(most, most, -1, 0),
		accountOf(most+1, most, most, 0), accountOf(most, most+1, most, 0), accountOf(most, most, most+1, 0),
		accountOf(most, most, most, -1), accountOf(most, most, most, 4), accountOf(0, 0, 0, -1), accountOf(0, 0, 0, 4),
		accountOf(highest, highest, highest, highest), accountOf(lowest, lowest, lowest, lowest),
		accountOf(highest, lowest, most+1, 4), accountOf(0, 0, lowest, 3), accountOf(-1, 0, 0, 1),
	} {
		for _, call := range accountCalls {
			if got := accountAnswer(call, a); got != refused(impl.ErrRange) {
				t.Errorf("%s of %v: %v, want ErrRange alone", call, a, got)
			}
		}
	}
}
