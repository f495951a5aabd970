package coop_test

import (
	"maps"
	"regexp"
	"slices"
	"strconv"
	"strings"
	"testing"

	"homarus/api"
	"homarus/coop"
)

// The chapter's section Terms, followed word by word, and held against what the package says; and its theorems.

func trueSurplus(c api.Coop) int {
	n := c.Till
	for _, a := range c.Accounts {
		n += a.Debt - a.Balance
	}
	return n
}

// outside says whether a number is not from low to high.
func outside(n, low, high int) bool { return n < low || n > high }

func trueCheck(c api.Coop) api.Errno {
	if outside(c.Rates.Fee, 0, 1000000) || outside(c.Rates.Interest, 0, 1000000) || outside(c.Rates.Price, 0, 1000) || outside(c.Rates.Credit, 0, most) {
		return api.ErrRange
	}
	if len(c.Accounts) < 1 {
		return api.ErrShort
	}
	if len(c.Accounts) > 12 {
		return api.ErrFull
	}
	for _, a := range c.Accounts {
		for _, n := range []int{a.Balance, a.Debt, a.Season} {
			if outside(n, 0, most) {
				return api.ErrRange
			}
		}
	}
	if outside(c.Till, 0, most) {
		return api.ErrRange
	}
	if trueSurplus(c) < 0 {
		return api.ErrClash
	}
	return api.OK
}

func trueDealError(c api.Coop, d api.Deal) api.Errno {
	nobody := func(n int) bool { return outside(n, 0, len(c.Accounts)-1) }
	if outside(d.Kind, 1, 8) {
		return api.ErrKind
	}
	switch d.Kind {
	case 7, 8:
		if d.Member != 0 {
			return api.ErrForm
		}
	default:
		if nobody(d.Member) {
			return api.ErrMissing
		}
	}
	if d.Kind == 6 {
		if nobody(d.Other) {
			return api.ErrMissing
		}
		if d.Other == d.Member {
			return api.ErrForm
		}
	} else if d.Other != 0 {
		return api.ErrForm
	}
	if outside(d.Amount, 1, most) {
		return api.ErrRange
	}
	return api.OK
}

// roundedUp returns the least whole number that is not below a fraction.
func roundedUp(n, by int) int {
	if n%by == 0 {
		return n / by
	}
	return n/by + 1
}

// trueRefusal returns the error with which a valid deal is refused, but that of a number that is too great.
func trueRefusal(c api.Coop, d api.Deal) api.Errno {
	a := c.Accounts[d.Member]
	refusals := map[int][]struct {
		yes bool
		e   api.Errno
	}{
		2: {{d.Amount*c.Rates.Price > a.Balance, api.ErrShort}},
		3: {{a.Debt+d.Amount+roundedUp(d.Amount*c.Rates.Interest, 1000000) > c.Rates.Credit, api.ErrOver}},
		4: {{d.Amount > a.Debt, api.ErrOver}, {d.Amount > a.Balance, api.ErrShort}},
		5: {{d.Amount > a.Balance, api.ErrShort}, {d.Amount > c.Till, api.ErrShort}},
		6: {{d.Amount > a.Balance, api.ErrShort}},
		7: {{d.Amount > trueSurplus(c), api.ErrOver}, {trueSeasons(c) == 0, api.ErrMissing}},
		8: {{d.Amount > c.Till, api.ErrShort}, {d.Amount > trueSurplus(c), api.ErrOver}},
	}
	for _, x := range refusals[d.Kind] {
		if x.yes {
			return x.e
		}
	}
	return api.OK
}

// trueDo returns what Do has to for a valid cooperative.
func trueDo(before api.Coop, d api.Deal) (api.Coop, api.Errno) {
	if e := trueDealError(before, d); e != api.OK {
		return api.Coop{}, e
	}
	if e := trueRefusal(before, d); e != api.OK {
		return api.Coop{}, e
	}
	c := cloneCoop(before)
	a := &c.Accounts[d.Member]
	switch d.Kind {
	case 1:
		c.Till += d.Amount
		a.Season += d.Amount
		a.Balance += d.Amount - roundedUp(d.Amount*c.Rates.Fee, 1000000)
	case 2:
		a.Balance -= d.Amount * c.Rates.Price
	case 3:
		a.Debt += d.Amount + roundedUp(d.Amount*c.Rates.Interest, 1000000)
		a.Balance += d.Amount
	case 4:
		a.Balance -= d.Amount
		a.Debt -= d.Amount
	case 5:
		a.Balance -= d.Amount
		c.Till -= d.Amount
	case 6:
		a.Balance -= d.Amount
		c.Accounts[d.Other].Balance += d.Amount
	case 7:
		for i, share := range trueShares(before, d.Amount) {
			c.Accounts[i].Balance += share
			c.Accounts[i].Season = 0
		}
	case 8:
		c.Till -= d.Amount
	}
	for _, a := range c.Accounts {
		if a.Balance > most || a.Season > most {
			return api.Coop{}, api.ErrFull
		}
	}
	if c.Till > most {
		return api.Coop{}, api.ErrFull
	}
	return c, api.OK
}

func trueSeasons(c api.Coop) int {
	n := 0
	for _, a := range c.Accounts {
		n += a.Season
	}
	return n
}

// trueShares hands out the cents that remain one by one: each one to the first member with the greatest rest that got none.
func trueShares(c api.Coop, amount int) []int {
	all, left := trueSeasons(c), amount
	shares, rests := make([]int, len(c.Accounts)), make([]int, len(c.Accounts))
	for i, a := range c.Accounts {
		shares[i] = amount * a.Season / all
		rests[i] = amount*a.Season - shares[i]*all
		left -= shares[i]
	}
	for range left {
		first := slices.Index(rests, slices.Max(rests))
		shares[first]++
		rests[first] = -1
	}
	return shares
}

// trueRun returns what Run has to for a valid cooperative, deal by deal.
func trueRun(c api.Coop, deals []api.Deal) (api.Coop, []api.Errno) {
	var errors []api.Errno
	for _, d := range deals {
		next, e := trueDo(c, d)
		if e == api.OK {
			c = next
		}
		errors = append(errors, e)
	}
	return c, errors
}

// P9.1, P9.2: Check, Surplus, Do and Run say what the chapter's section Terms does. P9.7: the cooperative is valid after all deals, the till has changed by slips, less what was drawn and bought, and the surplus by fees, interest and fuel, less bonuses and what was bought.
func TestTrueDeals(t *testing.T) {
	r := newRandom()
	seen := map[[2]int]int{}
	for range 6000 {
		up := r.of(10, 1000, 100000, most)
		c := r.coop(r.of(1, 2, 3, 12), up)
		deals := r.deals(c, 12, up)
		if e := coop.Check(c); e != api.OK || trueCheck(c) != api.OK {
			t.Fatalf("%v: Check returns %d", c, e)
		}
		want, wanted := trueRun(c, deals)
		after, errors, e := coop.Run(c, deals)
		if !sameCoop(after, want) || !slices.Equal(errors, wanted) || e != api.OK {
			t.Fatalf("%v: Run(%v) returns %v %v %d, not %v %v", c, deals, after, errors, e, want, wanted)
		}
		till, surplus, now := c.Till, trueSurplus(c), c
		for i, d := range deals {
			next, e := coop.Do(now, d)
			if e != errors[i] || e != api.OK && !sameCoop(next, api.Coop{}) {
				t.Fatalf("%v: Do(%v) returns %v %d, not %d", now, d, next, e, errors[i])
			}
			seen[[2]int{d.Kind, int(e)}]++
			if e != api.OK {
				continue
			}
			now = next
			till += map[int]int{api.DealSlip: 1, api.DealDraw: -1, api.DealBuy: -1}[d.Kind] * d.Amount
			surplus += map[int]int{
				api.DealSlip: roundedUp(d.Amount*c.Rates.Fee, 1000000), api.DealLoan: roundedUp(d.Amount*c.Rates.Interest, 1000000), api.DealFuel: d.Amount * c.Rates.Price, api.DealBonus: -d.Amount, api.DealBuy: -d.Amount,
			}[d.Kind]
		}
		n, e := coop.Surplus(after)
		if !sameCoop(now, after) || trueCheck(after) != api.OK || coop.Check(after) != api.OK || after.Till != till || n != surplus || e != api.OK {
			t.Fatalf("%v: after %v it is %v, with the surplus %d %d, not till %d and surplus %d", c, deals, after, n, e, till, surplus)
		}
	}
	for kind, errors := range map[int][]api.Errno{1: {api.OK, api.ErrFull}, 2: {api.OK, api.ErrShort}, 3: {api.OK, api.ErrOver, api.ErrFull}, 4: {api.OK, api.ErrOver, api.ErrShort}, 5: {api.OK, api.ErrShort}, 6: {api.OK, api.ErrShort, api.ErrFull}, 7: {api.OK, api.ErrOver, api.ErrMissing, api.ErrFull}, 8: {api.OK, api.ErrShort, api.ErrOver}} {
		for _, e := range errors {
			if seen[[2]int{kind, int(e)}] < 10 {
				t.Errorf("deals of the kind %d had the error %d %d times", kind, e, seen[[2]int{kind, int(e)}])
			}
		}
	}
}

// P9.1: Check says what the section Terms does of any cooperative.
func TestTrueCheck(t *testing.T) {
	r := newRandom()
	seen := map[api.Errno]int{}
	for range 20000 {
		c := r.coop(3, r.of(3, 1000, most))
		for range r.in(0, 2) {
			a := &c.Accounts[r.Intn(len(c.Accounts))]
			fields := []*int{&c.Rates.Fee, &c.Rates.Interest, &c.Rates.Price, &c.Rates.Credit, &c.Till, &a.Balance, &a.Debt, &a.Season, &a.Balance, &c.Till}
			*fields[r.Intn(len(fields))] = r.of(-1, 0, 1, 1000, 1001, 1000000, 1000001, most, most+1)
		}
		if e := coop.Check(c); e != trueCheck(c) {
			t.Fatalf("%v: Check returns %d, not %d", c, e, trueCheck(c))
		} else {
			seen[e]++
		}
	}
	if seen[api.OK] < 1000 || seen[api.ErrRange] < 1000 || seen[api.ErrClash] < 500 {
		t.Errorf("the errors were %v", seen)
	}
}

// P9.8: with slips, fuel, loans and repayments alone each account follows from the member's own deals; and slips can stand in any order.
func TestTrueSlips(t *testing.T) {
	r := newRandom()
	refused := 0
	for range 2000 {
		c := r.coop(5, 5000)
		var deals []api.Deal
		for range r.in(0, 40) {
			deals = append(deals, r.own(r.Intn(len(c.Accounts)), r.of(5, 50, 2000)))
		}
		all, errors, _ := coop.Run(c, deals)
		for member, a := range all.Accounts {
			others := func(d api.Deal) bool { return d.Member != member }
			alone, own, e := coop.Run(c, slices.DeleteFunc(slices.Clone(deals), others))
			if alone.Accounts[member] != a || e != api.OK {
				t.Fatalf("%v: the account %d is %v after %v, and %v after its own deals", c, member, a, deals, alone.Accounts[member])
			}
			for i, d := range deals {
				if d.Member != member {
					continue
				}
				if errors[i] != own[0] {
					t.Fatalf("%v: the deal %d of %v has the error %d, and %d without the others", c, i, deals, errors[i], own[0])
				}
				if own[0] != api.OK {
					refused++
				}
				own = own[1:]
			}
		}
		slips := slices.DeleteFunc(slices.Clone(deals), func(d api.Deal) bool { return d.Kind != api.DealSlip })
		first, _, _ := coop.Run(c, slips)
		r.Shuffle(len(slips), func(i, j int) { slips[i], slips[j] = slips[j], slips[i] })
		if second, _, e := coop.Run(c, slips); !sameCoop(first, second) || e != api.OK {
			t.Fatalf("%v: after slips it is %v, and %v in another order", c, first, second)
		}
		// Slips that stand side by side can change places, whatever else is done.
		for i := range max(1, len(deals)) - 1 {
			if deals[i].Kind == api.DealSlip && deals[i+1].Kind == api.DealSlip {
				deals[i], deals[i+1] = deals[i+1], deals[i]
			}
		}
		if second, _, e := coop.Run(c, deals); !sameCoop(all, second) || e != api.OK {
			t.Fatalf("%v: after deals it is %v, and %v in another order", c, all, second)
		}
	}
	if refused < 1000 {
		t.Errorf("%d deals were refused", refused)
	}
}

// P9.9: deals that are refused can be left out.
func TestTrueRefused(t *testing.T) {
	r := newRandom()
	for range 2000 {
		up := r.of(10, 1000, most)
		c := r.coop(4, up)
		deals := r.deals(c, 30, up)
		all, errors, _ := coop.Run(c, deals)
		var done []api.Deal
		for i, d := range deals {
			if errors[i] == api.OK {
				done = append(done, d)
			}
		}
		if few, errors, e := coop.Run(c, done); !sameCoop(all, few) || e != api.OK || slices.ContainsFunc(errors, func(e api.Errno) bool { return e != api.OK }) {
			t.Fatalf("%v: after %v it is %v, without refused ones %v %v", c, deals, all, few, errors)
		}
	}
}

// P9.3, P9.10: the shares are what the section Terms says, and together the amount, each within a cent of its part; equal seasons have shares within a cent, greater ones no lesser share; and a bonus adds them.
func TestTrueShares(t *testing.T) {
	r := newRandom()
	for range 5000 {
		up := r.of(1, 3, 20, 100000, most)
		c := r.coop(12, up)
		amount := r.money(r.of(1, 20, up, most))
		list, e := coop.Shares(c, amount)
		all := trueSeasons(c)
		if all == 0 {
			if len(list) > 0 || e != api.ErrMissing {
				t.Fatalf("%v: Shares returns %v %d", c, list, e)
			}
			continue
		}
		if !slices.Equal(list, trueShares(c, amount)) || e != api.OK {
			t.Fatalf("%v: Shares(%d) returns %v %d, not %v", c, amount, list, e, trueShares(c, amount))
		}
		sum := 0
		for i, n := range list {
			sum += n
			if off := n*all - amount*c.Accounts[i].Season; off <= -all || off >= all {
				t.Fatalf("%v: Shares(%d) returns %v: that of %d is not near to its part", c, amount, list, i)
			}
			for j, m := range list {
				a, b := c.Accounts[i].Season, c.Accounts[j].Season
				if a == b && outside(n-m, -1, 1) || a > b && n < m {
					t.Fatalf("%v: Shares(%d) returns %v: those of %d and %d are not fair", c, amount, list, i, j)
				}
			}
		}
		if sum != amount {
			t.Fatalf("%v: Shares(%d) returns %v", c, amount, list)
		}
		after, e := coop.Do(c, bonus(amount))
		if e != api.OK {
			continue
		}
		for i, a := range after.Accounts {
			if a.Balance != c.Accounts[i].Balance+list[i] || a.Season != 0 || a.Debt != c.Accounts[i].Debt {
				t.Fatalf("%v: a bonus of %d makes it %v", c, amount, after)
			}
		}
	}
}

// truePasses says whether a motion passes when all have voted.
func truePasses(weights, votes []int, need int) bool {
	yes, all := 0, 0
	for i, weight := range weights {
		all += weight
		if votes[i] == api.VoteYes {
			yes += weight
		}
	}
	return yes*1000000 > need*all
}

// trueWays returns all ways in which the members from one on vote, if their vote is open.
func trueWays(votes []int, from int) [][]int {
	if from == len(votes) {
		return [][]int{slices.Clone(votes)}
	}
	if votes[from] != api.VoteOpen {
		return trueWays(votes, from+1)
	}
	var all [][]int
	for _, vote := range []int{api.VoteYes, api.VoteNo} {
		all = append(all, trueWays(voted(votes, from, vote), from+1)...)
	}
	return all
}

// voted returns votes with another one of a member.
func voted(votes []int, member, vote int) []int {
	votes = slices.Clone(votes)
	votes[member] = vote
	return votes
}

// trueDecision returns what Decide has to.
func trueDecision(weights, votes []int, need int) int {
	results := map[bool]bool{}
	for _, way := range trueWays(votes, 0) {
		results[truePasses(weights, way, need)] = true
	}
	switch {
	case !results[false]:
		return api.Sure
	case !results[true]:
		return api.Never
	}
	return api.Open
}

// trueSwings returns what Swing has to.
func trueSwings(weights, votes []int, need int) []int {
	var swings []int
	for member, vote := range votes {
		decides := func(way []int) bool {
			return truePasses(weights, voted(way, member, api.VoteYes), need) && !truePasses(weights, voted(way, member, api.VoteNo), need)
		}
		if vote == api.VoteOpen && slices.ContainsFunc(trueWays(votes, 0), decides) {
			swings = append(swings, member)
		}
	}
	return swings
}

// P9.4, P9.11, P9.12: Decide and Swing say what all ways do in which the others vote, one by one; there is somebody in Swing just if the motion is open.
func TestTrueVotes(t *testing.T) {
	r := newRandom()
	seen := map[int]int{}
	for range 3000 {
		weights, votes, need := r.motion(r.of(1, 3, 7))
		verdict, e := coop.Decide(weights, votes, need)
		if want := trueDecision(weights, votes, need); verdict != want || e != api.OK {
			t.Fatalf("Decide(%v, %v, %d) returns %d %d, not %d", weights, votes, need, verdict, e, want)
		}
		seen[verdict]++
		swings, e := coop.Swing(weights, votes, need)
		if want := trueSwings(weights, votes, need); !slices.Equal(swings, want) || e != api.OK || (len(swings) > 0) != (verdict == api.Open) {
			t.Fatalf("Swing(%v, %v, %d) returns %v %d, not %v", weights, votes, need, swings, e, want)
		}
		// What is said of two votes is so whatever the next one says.
		if member := slices.Index(votes, api.VoteOpen); member >= 0 {
			yes, _ := coop.Decide(weights, voted(votes, member, api.VoteYes), need)
			no, _ := coop.Decide(weights, voted(votes, member, api.VoteNo), need)
			if yes == no && verdict != yes || yes != no && verdict != api.Open {
				t.Fatalf("Decide(%v, %v, %d) returns %d, and %d and %d with the next vote", weights, votes, need, verdict, yes, no)
			}
		}
	}
	if seen[api.Sure] < 200 || seen[api.Never] < 200 || seen[api.Open] < 200 {
		t.Errorf("the verdicts were %v", seen)
	}
}

// trueNet returns the net of each member.
func trueNet(n int, claims []api.Claim) []int {
	net := make([]int, n)
	for _, c := range claims {
		net[c.To] += c.Amount
		net[c.From] -= c.Amount
	}
	return net
}

// trueSettled returns what Settle has to.
func trueSettled(n int, claims []api.Claim) []api.Claim {
	var payments []api.Claim
	for {
		// What is left of the nets when the payments so far are made.
		left := trueNet(n, claims)
		for i, paid := range trueNet(n, payments) {
			left[i] -= paid
		}
		from, to := -1, -1
		for i := n - 1; i >= 0; i-- {
			if left[i] < 0 {
				from = i
			}
			if left[i] > 0 {
				to = i
			}
		}
		if from == -1 && to == -1 {
			return payments
		}
		payments = append(payments, claim(from, to, min(-left[from], left[to])))
	}
}

func total(claims []api.Claim) int {
	n := 0
	for _, c := range claims {
		n += c.Amount
	}
	return n
}

// P9.5, P9.13: payments are what the section Terms says; they leave each member the same net as the claims, nobody pays and gets, and there are fewer than members.
func TestTrueSettled(t *testing.T) {
	r := newRandom()
	for range 5000 {
		n := r.of(1, 2, 3, 4, 6, 12)
		claims := r.claims(n, r.of(3, 40), r.of(1, 3, 50, most))
		payments, e := coop.Settle(n, claims)
		if want := trueSettled(n, claims); !slices.Equal(payments, want) || e != api.OK {
			t.Fatalf("Settle(%d, %v) returns %v %d, not %v", n, claims, payments, e, want)
		}
		if !slices.Equal(trueNet(n, payments), trueNet(n, claims)) || len(payments) >= n {
			t.Fatalf("Settle(%d, %v) returns %v", n, claims, payments)
		}
		pays, gets := map[int]bool{}, map[int]bool{}
		for _, p := range payments {
			pays[p.From], gets[p.To] = true, true
			if p.Amount < 1 || pays[p.To] || gets[p.From] {
				t.Fatalf("Settle(%d, %v) returns %v: somebody pays and gets", n, claims, payments)
			}
		}
		if again, e := coop.Settle(n, slices.Clone(claims)); !slices.Equal(again, payments) || e != api.OK {
			t.Fatalf("Settle(%d, %v) returns %v, then %v", n, claims, payments, again)
		}
	}
}

// P9.13: what is paid is together the least that can be: of all payments of up to 3 between each two of three members none leave the same nets with less.
func TestLeastIsPaid(t *testing.T) {
	least := map[[3]int]int{}
	var all [][]api.Claim
	for way := range 4 * 4 * 4 * 4 * 4 * 4 {
		var list []api.Claim
		for _, pair := range [][2]int{{0, 1}, {0, 2}, {1, 0}, {1, 2}, {2, 0}, {2, 1}} {
			if way%4 > 0 {
				list = append(list, claim(pair[0], pair[1], way%4))
			}
			way /= 4
		}
		net := [3]int(trueNet(3, list))
		if sum, ok := least[net]; !ok || total(list) < sum {
			least[net] = total(list)
		}
		all = append(all, list)
	}
	for _, list := range all {
		payments, e := coop.Settle(3, list)
		if enough := least[[3]int(trueNet(3, list))]; total(payments) > enough || e != api.OK {
			t.Fatalf("Settle(3, %v) returns %v %d: %d is enough", list, payments, e, enough)
		}
	}
	if len(least) < 100 {
		t.Errorf("there were %d nets", len(least))
	}
}

// trueRead returns the row that Read has to name, and otherwise what the rows say.
func trueRead(text string) (c api.Coop, deals []api.Deal, bad int) {
	const number = " (0|[1-9][0-9]{0,9})"
	rows := map[string]*regexp.Regexp{
		"coop": regexp.MustCompile(`^coop` + strings.Repeat(number, 5) + `\n$`), "account": regexp.MustCompile(`^account` + strings.Repeat(number, 3) + `\n$`),
		"deal": regexp.MustCompile(`^deal` + strings.Repeat(number, 4) + `\n$`), "end": regexp.MustCompile(`^end` + number + `\n$`),
	}
	ended := false
	lines := strings.SplitAfter(text, "\n")
	if lines[len(lines)-1] == "" {
		lines = lines[:len(lines)-1]
	}
	for i, line := range lines {
		word, n := "", []int(nil)
		for name := range maps.Keys(rows) {
			if found := rows[name].FindStringSubmatch(line); found != nil {
				word = name
				for _, s := range found[1:] {
					k, _ := strconv.Atoi(s)
					n = append(n, k)
				}
			}
		}
		switch {
		case word == "" || ended || (i == 0) != (word == "coop") || word == "account" && len(deals) > 0 || word == "end" && n[0] != len(deals):
			return api.Coop{}, nil, i + 1
		case word == "coop":
			c.Rates, c.Till = api.Rates{Fee: n[0], Interest: n[1], Price: n[2], Credit: n[3]}, n[4]
		case word == "account":
			c.Accounts = append(c.Accounts, api.Account{Balance: n[0], Debt: n[1], Season: n[2]})
		case word == "deal":
			deals = append(deals, deal(n[0], n[1], n[2], n[3]))
		case word == "end":
			ended = true
		}
	}
	if !ended {
		return api.Coop{}, nil, len(lines) + 1
	}
	return c, deals, 0
}

// trueRollError returns the error of what a roll says.
func trueRollError(c api.Coop, deals []api.Deal) api.Errno {
	if e := trueCheck(c); e != api.OK {
		return e
	}
	if len(deals) > 200 {
		return api.ErrFull
	}
	for _, d := range deals {
		if e := trueDealError(c, d); e != api.OK {
			return e
		}
	}
	return api.OK
}

// P9.6, P9.14: a roll is read from its deals, and what is read is written as it was; a changed one is what its rows say, row by row.
func TestTrueRolls(t *testing.T) {
	r := newRandom()
	wrong, right := map[api.Errno]int{}, 0
	for range 4000 {
		up := r.of(10, 1000, most)
		c := r.coop(4, up)
		deals := slices.DeleteFunc(r.deals(c, 8, up), func(d api.Deal) bool { return trueDealError(c, d) != api.OK })
		text, e := coop.Write(c, deals)
		if text != trueText(c, deals) || e != api.OK {
			t.Fatalf("%v %v: Write returns %q %d", c, deals, text, e)
		}
		if c2, deals2, row, e := coop.Read(text); !sameCoop(c, c2) || !slices.Equal(deals, deals2) || row != 0 || e != api.OK {
			t.Fatalf("%q: Read returns %v %v %d %d", text, c2, deals2, row, e)
		}
		for range r.in(1, 2) {
			text = r.changedText(text)
		}
		wantCoop, wantDeals, wantRow := trueRead(text)
		want := api.ErrForm
		if wantRow == 0 {
			want = trueRollError(wantCoop, wantDeals)
		}
		c2, deals2, row, e := coop.Read(text)
		if row != wantRow || e != want {
			t.Fatalf("%q: Read returns %d %d, not %d %d", text, row, e, wantRow, want)
		}
		if e != api.OK {
			wrong[e]++
			continue
		}
		if s, e := coop.Write(c2, deals2); s != text || e != api.OK || !sameCoop(c2, wantCoop) || !slices.Equal(deals2, wantDeals) {
			t.Fatalf("%q: Read returns %v %v, which is written %q %d", text, c2, deals2, s, e)
		}
		right++
	}
	if right < 300 || wrong[api.ErrForm] < 300 || wrong[api.ErrRange] < 50 || wrong[api.ErrClash] < 20 || wrong[api.ErrMissing] < 20 || wrong[api.ErrKind] < 20 {
		t.Errorf("%d were right, and wrong: %v", right, wrong)
	}
}
