// Package keep is no layer of its own, but what layers lean on of which a crash
// takes what is not sure: how much of it stays.
package keep

// Turns hands out how many of so many bytes that are not sure stay: as one of
// keeps says behind the other, again and again; of no keeps none.
func Turns(keeps []int) func(loose int) int {
	at := 0
	return func(loose int) int {
		if len(keeps) == 0 {
			return 0
		}
		stay := keeps[at%len(keeps)]
		at++
		return min(max(stay, 0), loose)
	}
}
