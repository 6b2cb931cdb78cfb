package season

import "pennyfall/api"

// again is a machine that is played again.
type again struct{ api.SeasonState }

// play plays an entry again. What is refused changes nothing else.
func (a *again) play(e api.SeasonEntry) {
	amount := int64(e.Amount)
	if a.refuses(e.Kind, amount) {
		a.Refused = append(a.Refused, e.Number)
		return
	}
	switch e.Kind {
	case api.SeasonCoin:
		a.Credit += amount
		a.Held += amount
	case api.SeasonPlay:
		a.Credit--
		a.Held -= amount
		a.Paid += amount
	case api.SeasonBox:
		a.Held -= amount
		a.Boxed += amount
	case api.SeasonPlea:
		a.Boxed -= amount
		a.Returned += amount
	}
}

// refuses tells whether the machine has not what an entry needs.
func (a *again) refuses(kind int, amount int64) bool {
	switch kind {
	case api.SeasonPlay:
		return a.Credit == 0 || a.Held < amount
	case api.SeasonBox:
		return a.Held < amount
	case api.SeasonPlea:
		return a.Boxed < amount
	}
	return false
}
