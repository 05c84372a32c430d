package sketch

import (
	"strconv"
	"strings"

	"chase/api"
)

// Path reads a path: M, L and C with the coordinates of their points, and Z, separated by commas.
func Path(text string) api.Path {
	var p api.Path
	for _, part := range strings.Split(text, ",") {
		words := strings.Fields(part)
		if len(words) == 0 {
			continue
		}
		// The kinds are numbered in the order of these letters, from 1 on; what is none of them is 0.
		s := api.Step{Kind: 1 + strings.Index("MLCZ", words[0])}
		for i, w := range words[1:] {
			n, _ := strconv.Atoi(w)
			if i%2 == 0 {
				s.P[i/2].X = n
			} else {
				s.P[i/2].Y = n
			}
		}
		p = append(p, s)
	}
	return p
}
