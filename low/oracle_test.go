package low_test

import (
	"math/big"

	"gimbal/api"
)

// What Take must tell, reckoned as the document writes it, in numbers of any length.

func isWord(v int64) bool { return big.NewInt(v).CmpAbs(big.NewInt(1<<45)) < 0 }

func isVector(v api.Vec) bool { return isWord(v.X) && isWord(v.Y) && isWord(v.Z) }

// rounded is R(((2^s - 1) y + v) / 2^s): reckoned as floor((2 n + 2^s) / (2 2^s)), one less if that was a half above an even number.
func rounded(y int64, s int, v int64) int64 {
	parts := new(big.Int).Lsh(big.NewInt(1), uint(s))
	n := new(big.Int).Sub(parts, big.NewInt(1))
	n.Mul(n, big.NewInt(y)).Add(n, big.NewInt(v))
	up := n.Lsh(n, 1).Add(n, parts)
	q, rest := new(big.Int).DivMod(up, new(big.Int).Lsh(parts, 1), new(big.Int))
	if rest.Sign() == 0 && q.Bit(0) == 1 {
		q.Sub(q, big.NewInt(1))
	}
	return q.Int64()
}

func wantTake(l api.Low, s int, v api.Vec) answer {
	if s < 0 || s > 15 || !isVector(l.Y) || !isVector(v) {
		return bad(api.ErrForm)
	}
	if !l.On {
		return good(v)
	}
	return good(v3(rounded(l.Y.X, s, v.X), rounded(l.Y.Y, s, v.Y), rounded(l.Y.Z, s, v.Z)))
}
