package pinion

import (
	"testing"

	"pinion/api"
)

func wantRun(t *testing.T, m *Machine, most, kind, value, count int) {
	t.Helper()
	if event, n := m.Run(most); event != (api.Event{Kind: kind, Value: value}) || n != count {
		t.Errorf("P7: Run(%d) = %+v, %d, want {%d %d}, %d", most, event, n, kind, value, count)
	}
}

func wantRegister(t *testing.T, m *Machine, register, want int) {
	t.Helper()
	if value, e := m.Get(register); value != want || e != api.OK {
		t.Errorf("P7: Get(%d) = %d, %d, want %d", register, value, e, want)
	}
}

func wantPc(t *testing.T, m *Machine, want int) {
	t.Helper()
	if pc := m.Pc(); pc != want {
		t.Errorf("P7: Pc() = %d, want %d", pc, want)
	}
}

// TestP7RunMost: so many steps, but never more than 10000, and none below 1.
func TestP7RunMost(t *testing.T) {
	for most, count := range map[int]int{1: 1, 2: 2, 5000: 5000, 9999: 9999, 10000: 10000, 10001: 10000, 1 << 32: 10000, top: 10000} {
		m := machineFor(t, "addi x6, x6, 1\nj -4", false)
		set(t, m, 6, 0)
		wantRun(t, m, most, api.Going, 0, count)
		wantRegister(t, m, 6, (count+1)/2)
		wantPc(t, m, count%2*4)
	}
	m := machineFor(t, "addi x6, x6, 1\nebreak", false)
	before := stateOf(t, m)
	for _, most := range []int{0, -1, -10000, -1 << 32, low} {
		wantRun(t, m, most, api.Going, 0, 0)
		wantState(t, m, before)
	}
}

// TestP7RunGoesOn: a run begins where the last one left off.
func TestP7RunGoesOn(t *testing.T) {
	m := machineFor(t, "a: addi x6, x6, 1\nj a", true)
	set(t, m, 6, 0)
	for _, most := range []int{10000, 7, 0, 1, 10000} {
		m.Run(most)
	}
	wantRegister(t, m, 6, 10004)
	wantPc(t, m, 0)
}

// TestP7RunEvents: what stops a run, and what it counts.
func TestP7RunEvents(t *testing.T) {
	const ahead = "nop\nnop\n"
	for behind, c := range map[string]struct{ kind, value, done int }{
		"ebreak":        {api.Break, 8, 0},
		"ecall":         {api.Call, 1017, 1},
		".half 0":       {api.Illegal, 0, 0},
		".word 8191":    {api.Illegal, 8191, 0},
		"ld x1, -1(x0)": {api.Access, -1, 0},
		"sb x1, -7(x0)": {api.Access, -7, 0},
		"j -10":         {api.Fetch, -2, 1},
	} {
		m := machineFor(t, ahead+behind, false)
		wantRun(t, m, 9, c.kind, c.value, 2+c.done)
		// Steps enough and no more, and one too few.
		m = machineFor(t, ahead+behind, false)
		most := 3
		if c.kind == api.Fetch {
			most = 4
		}
		wantRun(t, m, most, c.kind, c.value, 2+c.done)
		m = machineFor(t, ahead+behind, false)
		wantRun(t, m, most-1, api.Going, 0, most-1)
	}
}

func TestP7RunByCalls(t *testing.T) {
	m := machineFor(t, "li x17, 1\necall\nnop\nli x17, -2\necall\necall\nebreak", true)
	wantRun(t, m, 100, api.Call, 1, 2)
	wantPc(t, m, 6)
	wantRun(t, m, 100, api.Call, -2, 3)
	wantRun(t, m, 100, api.Call, -2, 1)
	wantRun(t, m, 100, api.Break, 18, 0)
	wantRun(t, m, 100, api.Break, 18, 0)
}

// TestP7RunIsSteps: a run does what as many steps do.
func TestP7RunIsSteps(t *testing.T) {
	const text = "li x5, 9\na: mul x6, x6, x5\naddi x5, x5, -1\nsd x6, 1024(x5)\nbnez x5, a\nebreak"
	run, steps := machineFor(t, text, true), machineFor(t, text, true)
	for n := range 45 {
		wantState(t, run, stateOf(t, steps))
		last := steps.Step()
		event, _ := run.Run(1)
		if event != last {
			t.Fatalf("P7: Run(1) = %+v, step %d = %+v", event, n, last)
		}
	}
	wantRun(t, run, 1, api.Break, run.Pc(), 0)
}
