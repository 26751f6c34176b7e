package dispatch

import "dispatch/api"

func isConfig(c api.Config) bool {
	return within(c.Lease, 1, 20) &&
		within(c.Retries, 0, 5) &&
		within(c.Cap, 1, 5) &&
		within(c.Bound, 1, 8) &&
		within(c.Hedge, 0, 20)
}

func within(n, low, high int) bool {
	return low <= n && n <= high
}
