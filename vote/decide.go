package vote

import (
	"maps"
	"slices"

	"postil/api"
	"postil/leaf"
	"postil/stem"
)

// decide returns the lexicon with the decisions that follow: errors as stem.Add.
func (p poll) decide() (api.Lexicon, api.Errno) {
	x := api.Lexicon{Rules: slices.Clone(p.Lexicon.Rules), Decisions: slices.Clone(p.Lexicon.Decisions)}
	for question := range len(p.Questions) {
		head := p.settled(question)
		if head < 0 {
			continue
		}
		more, e := p.deciding(x, p.Questions[question].At, p.Questions[question].Heads[head])
		if e != api.OK {
			return api.Lexicon{}, e
		}
		x = more
	}
	return x, api.OK
}

// deciding returns a lexicon, with a decision more if a place has another head by it.
func (p poll) deciding(x api.Lexicon, at api.Place, to api.Head) (api.Lexicon, api.Errno) {
	h, e := stem.HeadOf(p.Text, x, at)
	if e != api.OK || h == to {
		return x, e
	}
	return stem.Add(p.Text, x, decision(greatest(x)+1, at, to))
}

// greatest returns the greatest Number of a lexicon's decisions, or 0 if there is none.
func greatest(x api.Lexicon) int {
	n := 0
	for _, d := range x.Decisions {
		n = max(n, d.Number)
	}
	return n
}

// moot returns all homographs that stand in some place which is a question that is not settled, in order.
func (p poll) moot() ([]string, api.Errno) {
	l, e := stem.Homographs(p.Text, p.Lexicon)
	if e != api.OK {
		return nil, e
	}
	stands, e := p.standing()
	if e != api.OK {
		return nil, e
	}
	moot := map[string]bool{}
	for _, word := range l {
		moot[word] = true
	}
	for word := range moot {
		if !slices.Contains(stands, word) {
			delete(moot, word)
		}
	}
	return slices.Sorted(maps.Keys(moot)), api.OK
}

// standing returns the words that stand in places which are questions that are not settled.
func (p poll) standing() ([]string, api.Errno) {
	var l []string
	for _, question := range p.unsettled() {
		word, e := leaf.At(p.Text, p.Questions[question].At)
		if e != api.OK {
			return nil, e
		}
		l = append(l, word)
	}
	return l, api.OK
}
