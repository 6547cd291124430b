package tome

import (
	"postil/api"
	"postil/chart"
	"postil/leaf"
	"postil/slip"
	"postil/stem"
)

// doubted returns the places that copies of records leave in doubt, in order: stem.Check's error of the text and the lexicon, checkSound's of the edition, slip.Check's of the cut, and leaf.Doubt's of the copies.
func doubted(r api.Records) ([]api.Place, api.Errno) {
	if e := stem.Check(r.Text, r.Lexicon); e != api.OK {
		return nil, e
	}
	if e := checkSound(r.Text, r.Edition); e != api.OK {
		return nil, e
	}
	if e := slip.Check(r.Cut); e != api.OK {
		return nil, e
	}
	return leaf.Doubt(r.Text, r.Copies)
}

// checkSound returns chart.Check's error of an edition, and ErrBad unless it is sound.
func checkSound(t api.Text, x api.Edition) api.Errno {
	_, _, e := chart.Clash(t, x)
	switch e {
	case api.ErrNone:
		return api.OK
	case api.OK:
		return api.ErrBad
	}
	return e
}

// isVolume tells whether a volume is valid. It stops at the first number that is too great, as lists may share memory and be longer together than can be counted.
func isVolume(v api.Volume) bool {
	if len(v.Entries) > api.MaxVolume {
		return false
	}
	forms, rows := 0, 0
	for _, entry := range v.Entries {
		forms += len(entry.Forms)
		if forms > api.MaxVolume {
			return false
		}
		for _, form := range entry.Forms {
			rows += len(form.Rows)
			if rows > api.MaxVolume {
				return false
			}
		}
	}
	return true
}
