// Package turns: lists that are gone through in turn, from the first member again when they are over (P11, P12).
package turns

// Of answers the member that comes up at turn k, counted from 0; 0, if there is none.
func Of(list []int, k int) int {
	if len(list) == 0 || k < 0 {
		return 0
	}
	return list[k%len(list)]
}
