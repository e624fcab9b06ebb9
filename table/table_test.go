package table_test

import (
	"math"
	"testing"

	"gimbal/table"
)

type pair struct{ a, b int }

func TestAt(t *testing.T) {
	rows := table.Rows[pair]{2: {5, 6}, 0: {1, 2}}
	for i, want := range []pair{{1, 2}, {}, {5, 6}} {
		if row, there := rows.At(i); !there || row != want {
			t.Errorf("At(%d): %+v, %v", i, row, there)
		}
	}
	for _, i := range []int{-1, 3, 4, 1 << 32, math.MaxInt, math.MinInt} {
		if row, there := rows.At(i); there || row != (pair{}) {
			t.Errorf("At(%d): %+v, %v", i, row, there)
		}
	}
}

func TestNoRows(t *testing.T) {
	for _, rows := range []table.Rows[string]{nil, {}} {
		for i := -1; i <= 1; i++ {
			if row, there := rows.At(i); there || row != "" {
				t.Errorf("At(%d): %q, %v", i, row, there)
			}
		}
	}
}
