package seat

import (
	"iter"

	"tithing/api"
)

// numbers has one for each party, and 0 for those that there are not.
type numbers [api.MaxSeatParties]int

func listed(list []int) numbers {
	var n numbers
	copy(n[:], list)
	return n
}

// poll is a rule at work on counts.
type poll struct {
	Rule
	counts  numbers
	votes   numbers // the counts, but 0 for a party that is not admitted
	total   int     // the sum of all votes
	divisor func(seats int) int
	claim   func(p poll, party, seats int) quotient // the quotient for a further seat
}

// work returns the poll of a valid rule and valid counts.
func work(r Rule, counts []int) poll {
	p := poll{Rule: r, counts: listed(counts), divisor: divisors()[r.Method], claim: poll.byDivisor}
	if r.Method == Remainder {
		p.claim = poll.byRemainder
	}
	return p.recounted()
}

// recounted returns the poll with the votes of its counts.
func (p poll) recounted() poll {
	isAdmitted := p.admits
	p.votes = numbers{}
	for party, n := range p.counts {
		if isAdmitted(n) {
			p.votes[party] = n
		}
	}
	p.total = sum(p.votes[:]...)
	return p
}

// byDivisor returns the square of the quotient.
func (p poll) byDivisor(party, seats int) quotient {
	return lowest(square(p.votes[party]), p.divisor(seats))
}

// byRemainder makes largest remainders a method of quotients: each seat of the rounded share comes before all remainders, and what is beyond them is worth nothing.
func (p poll) byRemainder(party, seats int) quotient {
	whole, rest := p.share(party)
	switch {
	case seats < whole:
		return quotient{1, 0}
	case seats == whole:
		return lowest(rest, p.total)
	}
	return lowest(0, 1)
}

// share returns the share of the party, rounded down, and the remainder in parts of the total.
func (p poll) share(party int) (whole, rest int) {
	if p.votes[party] == 0 {
		return 0, 0
	}
	n := p.votes[party] * p.Seats
	return n / p.total, n % p.total
}

// claims yields the admitted parties with their quotients, if they have these seats.
func (p poll) claims(s numbers) iter.Seq2[int, quotient] {
	return func(yield func(int, quotient) bool) {
		for party, n := range p.votes {
			if n > 0 && !yield(party, p.claim(p, party, s[party])) {
				return
			}
		}
	}
}

// first returns the parties that may be next, if they have these seats.
func (p poll) first(s numbers) []int {
	var top quotient
	var parties []int
	for party, q := range p.claims(s) {
		switch {
		case len(parties) == 0 || top.below(q):
			top, parties = q, []int{party}
		case q == top:
			parties = append(parties, party)
		}
	}
	return parties
}

// outcome returns the fewest and the most seats of all parties in results: the results are the lists between them that give all seats.
func (p poll) outcome() (low, high numbers) {
	var give func(left int)
	give = func(left int) {
		parties := p.first(low)
		if left == 0 || len(parties) == 0 {
			return
		}
		for _, party := range parties {
			high[party]++
		}
		if len(parties) <= left {
			low = high
			give(left - len(parties))
		}
	}
	give(p.Seats)
	return low, high
}

// result returns the only result.
func (p poll) result() (numbers, api.Errno) {
	low, high := p.outcome()
	if low != high {
		return numbers{}, api.ErrTie
	}
	return low, api.OK
}

// oneMore returns the only results with the seats, and with one seat more.
func (p poll) oneMore() (before, after numbers, e api.Errno) {
	before, e = p.result()
	if e != api.OK {
		return numbers{}, numbers{}, e
	}
	p.Seats++
	after, e = p.result()
	return before, after, e
}

// firstBelow returns the first party that has less in a than in b.
func firstBelow(a, b numbers) (int, api.Errno) {
	for party, n := range a {
		if n < b[party] {
			return party, api.OK
		}
	}
	return 0, api.ErrNone
}

// due returns how many seats are given to all parties together.
func (p poll) due() int {
	if p.total == 0 {
		return 0
	}
	return p.Seats
}

// givesAll reports whether all seats are given, and only to admitted parties.
func (p poll) givesAll(s numbers) bool {
	for party, n := range s {
		if n > 0 && p.votes[party] == 0 {
			return false
		}
	}
	return sum(s[:]...) == p.due()
}

// judge reports whether the seats are a result, and whether they are the only one. They are a result if no quotient for a further seat is greater than one by which a seat is given, and the only one if each is smaller. Without seats there is nothing to compare.
func (p poll) judge(s numbers) (isResult, isOnly bool) {
	if all := p.givesAll(s); !all || p.due() == 0 {
		return all, all
	}
	further, last := lowest(0, 1), quotient{square(api.MaxSeatCount), 0}
	for party, q := range p.claims(s) {
		further = greater(further, q)
		if s[party] > 0 {
			last = lesser(last, p.claim(p, party, s[party]-1))
		}
	}
	return !last.below(further), further.below(last)
}
