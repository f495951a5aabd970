package whale_test

import (
	"slices"
	"testing"

	"homarus/api"
	"homarus/whale"
)

// line returns cells of a row.
func line(columns ...int) []api.Cell {
	var cells []api.Cell
	for _, x := range columns {
		cells = append(cells, api.Cell{X: x})
	}
	return cells
}

func cell(x, row int) api.Cell { return api.Cell{X: x, Row: row} }

// P6.5: as few codes as can be, and the first list of them.
func TestCodes(t *testing.T) {
	for name, c := range map[string]struct {
		cells []api.Cell
		hear  int
		codes []int
		want  api.Errno
	}{
		"hear 2":                        {line(0, 2, 4), 2, []int{0, 1, 0}, api.OK},
		"hear 1":                        {line(0, 2, 4), 1, []int{0, 0, 0}, api.OK},
		"hear 4":                        {line(0, 2, 4), 4, []int{0, 1, 2}, api.OK},
		"hear 3":                        {line(0, 2, 4), 3, []int{0, 1, 0}, api.OK},
		"hear 0, one cell twice":        {line(3, 3, 4), 0, []int{0, 1, 0}, api.OK},
		"no cells":                      {nil, 5, nil, api.OK},
		"one cell":                      {line(9), 200, []int{0}, api.OK},
		"9 cells":                       {line(9, 9, 9, 9, 9, 9, 9, 9, 9), 0, []int{0, 1, 2, 3, 4, 5, 6, 7, 8}, api.OK},
		"10 cells":                      {line(0, 1, 2, 3, 4, 5, 6, 7, 8, 9), 0, nil, api.ErrFull},
		"10 cells, one of them outside": {line(10, 1, 2, 3, 4, 5, 6, 7, 8, 9), 0, nil, api.ErrFull},
		"rows":                          {[]api.Cell{cell(0, 0), cell(0, 2), cell(0, 3)}, 1, []int{0, 0, 1}, api.OK},
		"rows and columns, hear 2":      {[]api.Cell{cell(0, 0), cell(2, 2), cell(3, 0)}, 2, []int{0, 1, 0}, api.OK},
		"rows further than columns":     {[]api.Cell{cell(5, 3), cell(4, 0)}, 2, []int{0, 0}, api.OK},
		"the least codes are too many":  {line(0, 6, 2, 4), 2, []int{0, 1, 1, 0}, api.OK},
		"column 10":                     {line(0, 10), 0, nil, api.ErrRange},
		"column -1":                     {line(-1), 0, nil, api.ErrRange},
		"row 4":                         {[]api.Cell{cell(0, 4)}, 0, nil, api.ErrRange},
		"row -1":                        {[]api.Cell{cell(0, 0), cell(0, -1)}, 0, nil, api.ErrRange},
		"the last cell":                 {[]api.Cell{cell(9, 3)}, 0, []int{0}, api.OK},
		"hear -1":                       {nil, -1, nil, api.ErrRange},
		"hear 200":                      {line(0, 9), 200, []int{0, 1}, api.OK},
		"hear 201":                      {nil, 201, nil, api.ErrRange},
	} {
		codes, e := whale.Codes(exampleBay(), c.cells, c.hear)
		if e != c.want || !slices.Equal(codes, c.codes) {
			t.Errorf("%s: Codes returns %v %d", name, codes, e)
		}
	}
}
