package skill

// ranksProve tells whether ranks, one for each position, prove.
func (b board) ranksProve(ranks []int) bool {
	for p, rank := range ranks {
		less := func(to int) bool { return ranks[to] != none && ranks[to] < rank }
		if b.Won[p] != (rank == 0) || rank > 0 && !b.forces(p, less) {
			return false
		}
	}
	return true
}

// keepProves tells whether a list of positions proves as a keep: the player
// must not be sure to leave it from any of them.
func (b board) keepProves(keep []int) bool {
	in := marked(keep)
	for _, p := range keep {
		if b.Won[p] || b.forces(p, in.lacks) {
			return false
		}
	}
	return true
}
