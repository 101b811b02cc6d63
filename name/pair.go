package name

import "iter"

// never is more than any cost.
const never = 1 << 30

// pair is two names that are being compared by the rules.
type pair struct {
	Rules
	soft   letterSet
	sounds sounds
	a, b   string
	known  map[rest]int // the minimum costs that compare has found
}

// rest has what is left of two names, from these indexes on.
type rest struct{ a, b int }

// kind is a kind of steps.
type kind struct {
	cost func(p *pair, s Step) int
}

func smallest(first int, more ...int) int {
	for _, n := range more {
		if n < first {
			first = n
		}
	}
	return first
}

func newPair(r Rules, a, b string) *pair {
	return &pair{Rules: r, soft: setOf(r.Soft), sounds: r.representatives(), a: a, b: b, known: map[rest]int{}}
}

// compare finds the minimum cost of each rest of the two names.
func compare(r Rules, a, b string) *pair {
	p := newPair(r, a, b)
	p.known[p.end()] = 0
	var least func(left rest) int
	least = func(left rest) int {
		if cost, ok := p.known[left]; ok {
			return cost
		}
		best := never
		for s := range p.next(left) {
			best = smallest(best, p.costOf(s)+least(left.after(s)))
		}
		p.known[left] = best
		return best
	}
	least(rest{})
	return p
}

// cost returns the cost of the two names that were compared.
func (p *pair) cost() int { return p.known[rest{}] }

// end returns the rest without letters.
func (p *pair) end() rest { return rest{len(p.a), len(p.b)} }

// next yields the steps with which an alignment of the rest can begin.
func (p *pair) next(left rest) iter.Seq[Step] {
	return func(yield func(Step) bool) {
		moreOfA, moreOfB := left.a < len(p.a), left.b < len(p.b)
		if moreOfA && moreOfB && !yield(Step{left.a, left.b}) {
			return
		}
		if moreOfA && !yield(Step{left.a, None}) {
			return
		}
		if moreOfB {
			yield(Step{None, left.b})
		}
	}
}

// after returns what is left after one of the next steps.
func (left rest) after(s Step) rest {
	if s.A != None {
		left.a++
	}
	if s.B != None {
		left.b++
	}
	return left
}

func (s Step) kind() kind {
	switch {
	case s.B == None:
		return kind{(*pair).skipOfA}
	case s.A == None:
		return kind{(*pair).skipOfB}
	}
	return kind{(*pair).replace}
}

// costOf returns what one of the next steps costs.
func (p *pair) costOf(s Step) int { return s.kind().cost(p, s) }

func (p *pair) replace(s Step) int {
	a, b := p.a[s.A], p.b[s.B]
	switch {
	case a == b:
		return 0
	case p.sounds.alike(a, b):
		return p.Alike
	}
	return p.Other
}

func (p *pair) skipOfA(s Step) int { return p.skip(p.a, s.A) }

func (p *pair) skipOfB(s Step) int { return p.skip(p.b, s.B) }

// skip returns what it costs to skip the letter of the name.
func (p *pair) skip(name string, index int) int {
	switch {
	case index > 0 && name[index] == name[index-1]:
		return p.Double
	case p.soft.has(name[index]):
		return p.SoftSkip
	}
	return p.Skip
}

// alignment returns an alignment with the minimum cost of the two names that were compared.
func (p *pair) alignment() []Step {
	var steps []Step
	var left rest
search:
	for left != p.end() {
		for s := range p.next(left) {
			if p.costOf(s)+p.known[left.after(s)] == p.known[left] {
				steps = append(steps, s)
				left = left.after(s)
				continue search
			}
		}
		break search
	}
	return steps
}

// sum returns what the steps cost, if they are an alignment of the two names, and whether they are. It asks only which steps can be next, not what compare finds, so that a proof does not rest on this.
func (p *pair) sum(steps []Step) (int, bool) {
	cost := 0
	var left rest
search:
	for _, step := range steps {
		for s := range p.next(left) {
			if s == step {
				cost += p.costOf(s)
				left = left.after(s)
				continue search
			}
		}
		return 0, false
	}
	return cost, left == p.end()
}
