package learn_test

import (
	"testing"

	"gimbal/api"
	"gimbal/learn"
)

const (
	top    = 1<<api.Bits - 1 // the greatest word
	topSum = 1<<51 - 1       // the greatest number of a sum
	gate   = api.Gate
	last   = api.Quiet - 1 // how many samples there are ahead of the one by which a bias is learned
)

// answer is what Take answers.
type answer struct {
	l    api.Learn
	told bool
	e    api.Errno
}

func taken(l api.Learn, v api.Vec) answer {
	m, told, e := learn.Take(l, v)
	return answer{m, told, e}
}

func v3(x, y, z int64) api.Vec { return api.Vec{X: x, Y: y, Z: z} }

// all is a vector of three times v.
func all(v int64) api.Vec { return v3(v, v, v) }

// placed is 0 with v as its number i.
func placed(i int, v int64) api.Vec {
	var a api.Vec
	*numbers(&a)[i] = v
	return a
}

func numbers(a *api.Vec) []*int64 { return []*int64{&a.X, &a.Y, &a.Z} }

func far(bias, sum api.Vec, n int) api.Learn { return api.Learn{Bias: bias, Sum: sum, N: n} }

func more(bias, sum api.Vec, n int) answer { return answer{l: far(bias, sum, n)} }
func learned(bias api.Vec) answer          { return answer{l: api.Learn{Bias: bias}, told: true} }
func anew(bias api.Vec) answer             { return answer{l: api.Learn{Bias: bias}} }
func bad(e api.Errno) answer               { return answer{e: e} }

type row struct {
	name string
	l    api.Learn
	v    api.Vec
	want answer
}

func check(t *testing.T, rows []row) {
	t.Helper()
	for _, r := range rows {
		if got := taken(r.l, r.v); got != r.want {
			t.Errorf("%s: Take(%+v, %+v): %+v, not %+v", r.name, r.l, r.v, got, r.want)
		}
		if got := wantTake(r.l, r.v); got != r.want {
			t.Errorf("%s: the test itself is at odds: %+v, not %+v", r.name, got, r.want)
		}
	}
}

// takeAll takes one sample behind the other, of which just the last one may be told as learned, if it is to be.
func takeAll(t *testing.T, l api.Learn, samples []api.Vec, learns bool) api.Learn {
	t.Helper()
	for i, v := range samples {
		got := taken(l, v)
		if want := learns && i == len(samples)-1; got.told != want || got.e != api.OK {
			t.Fatalf("sample %d, %+v: %+v", i, v, got)
		}
		l = got.l
	}
	return l
}

func repeated(v api.Vec, n int) []api.Vec {
	list := make([]api.Vec, n)
	for i := range list {
		list[i] = v
	}
	return list
}

// P11.1, P11.2: Quiet equal samples from 0; and each step on the way.
func TestEqualSamples(t *testing.T) {
	for _, v := range []api.Vec{v3(5, 0, 0), v3(0, -7, 0), v3(0, 0, 1), v3(1, 2, 3), v3(gate, -gate, gate), {}} {
		l := api.Learn{}
		for n := range last {
			got := taken(l, v)
			k := int64(n + 1)
			if want := more(api.Vec{}, v3(k*v.X, k*v.Y, k*v.Z), n+1); got != want {
				t.Fatalf("%+v, sample %d: %+v, not %+v", v, n, got, want)
			}
			if e := learn.Check(got.l); e != api.OK {
				t.Fatalf("Check(%+v): %v", got.l, e)
			}
			l = got.l
		}
		if got := taken(l, v); got != learned(v) {
			t.Errorf("%+v, the last sample: %+v", v, got)
		}
	}
}

// P11.1: samples that differ: their mean.
func TestDifferentSamples(t *testing.T) {
	var rising, turning []api.Vec
	for k := range int64(api.Quiet) {
		rising = append(rising, v3(k, -k, 100+2*k))
		turning = append(turning, v3((k%2*2-1)*gate, k%4, -k*k))
	}
	// 0 + .. + 31 is 496, 15 and a half times 32; 0 + 1 + 4 + .. + 961 is 10416, 325 and a half times 32
	tests := []struct {
		samples []api.Vec
		want    api.Vec
	}{
		{rising, v3(16, -16, 131)},
		{turning, v3(0, 2, -326)},
		{append(repeated(v3(0, 0, 0), last), v3(15, 16, 17)), v3(0, 0, 1)},
		{append(repeated(v3(0, 0, 0), last), v3(-15, -16, -17)), v3(0, 0, -1)},
		{append(repeated(v3(1, -1, gate), last), v3(0, 0, -gate)), v3(1, -1, gate-gate/16)},
	}
	for _, test := range tests {
		if l := takeAll(t, api.Learn{}, test.samples, true); l != (api.Learn{Bias: test.want}) {
			t.Errorf("%+v, not %+v", l, test.want)
		}
	}
}

// P11.1, P11.2: a bias that is learned, and one that is learned behind it: the gate goes with the bias.
func TestOneBiasBehindTheOther(t *testing.T) {
	first, second, third := v3(gate, -gate, 0), v3(2*gate, -2*gate, gate), v3(2*gate, -gate, 0)
	check(t, []row{{"the second is too far at first", api.Learn{}, second, anew(api.Vec{})}})
	l := api.Learn{}
	for _, v := range []api.Vec{first, second, third} {
		l = takeAll(t, l, repeated(v, api.Quiet), true)
		if l != (api.Learn{Bias: v}) {
			t.Fatalf("%+v, not %+v", l, v)
		}
	}
	check(t, []row{{"what was near at first is too far then", l, api.Vec{}, anew(third)}})
}

// P11.2: one that is far away makes it begin anew, wherever it comes; the bias stays.
func TestFarAway(t *testing.T) {
	bias := v3(100, -200, 300)
	for n := range api.Quiet {
		for _, away := range []api.Vec{all(top), all(-top), v3(101+gate, -200, 300), v3(100, -201-gate, 300), v3(100, -200, 301+gate)} {
			l := takeAll(t, api.Learn{Bias: bias}, repeated(v3(101, -201, 301), n), false)
			got := taken(l, away)
			if got != anew(bias) {
				t.Fatalf("%+v behind %d: %+v", away, n, got)
			}
			l = takeAll(t, got.l, repeated(v3(105, -195, 290), api.Quiet), true)
			if l != (api.Learn{Bias: v3(105, -195, 290)}) {
				t.Fatalf("behind %+v: %+v", away, l)
			}
		}
	}
	l := takeAll(t, api.Learn{}, repeated(all(gate+1), 3*api.Quiet), false)
	if l != (api.Learn{}) {
		t.Errorf("samples that are far away alone: %+v", l)
	}
}
