// Package table: rows that are asked by number.
package table

// Rows are a table, each at its number.
type Rows[R any] []R

// At is the row at a number, and whether there is one.
func (r Rows[R]) At(number int) (row R, there bool) {
	if number < 0 || number >= len(r) {
		return row, false
	}
	return r[number], true
}
