package schema

import "stitchery/api"

// index answers the first of the numbers below n that fits, or -1.
func index(n int, fits func(i int) bool) int {
	for i := range n {
		if fits(i) {
			return i
		}
	}
	return -1
}

// firstFault answers the first error that wrong tells of the numbers below n, at that number.
func firstFault(n int, wrong func(i int) api.Errno) api.Fault {
	for i := range n {
		if err := wrong(i); err != api.OK {
			return api.Fault{Err: err, At: i}
		}
	}
	return api.Fault{}
}
