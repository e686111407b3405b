package tests

// numbers gives the same row of numbers for the same seed, so that a test that fails
// fails again.
type numbers struct{ state uint64 }

// below is the next number, from 0 to m-1.
func (r *numbers) below(m int) int {
	r.state = r.state*6364136223846793005 + 1442695040888963407
	return int((r.state >> 33) % uint64(m))
}

// one picks one of the values.
func one[T any](r *numbers, values ...T) T {
	return values[r.below(len(values))]
}
