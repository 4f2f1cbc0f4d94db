package emu

import (
	"lathe/api"
	"lathe/encode"
	"lathe/exec"
)

// step is an instruction that an emulator executes. Its methods tell how they end the run, EndFuel if they do not.
type step struct {
	*emulator
	x       api.X
	returns bool // the run ends if 0 is loaded
}

// next tells how the step at the machine's place is taken.
func (r *emulator) next() func() int8 {
	x, e := r.fetch(r.machine.At)
	s := step{emulator: r, x: x}
	if e != api.OK {
		return s.fault
	}
	switch x.Op {
	case api.XRet:
		s.returns = true
		fallthrough
	case api.XLoad:
		return s.load
	case api.XStore:
		return s.store
	case api.XHost:
		return s.call
	}
	return s.compute
}

// fetch tells the instruction at a place, which stays the same for the whole run, as the code does.
func (r *emulator) fetch(at uint64) (api.X, api.Errno) {
	if x, ok := r.read[at]; ok {
		return x, api.OK
	}
	code, e := r.memory.Fetch(at)
	if e != api.OK {
		return api.X{}, e
	}
	x, _, e := encode.Read(code)
	if e != api.OK {
		return api.X{}, e
	}
	r.read[at] = x
	return x, api.OK
}

func (s step) fault() int8 {
	return api.EndFault
}

func (s step) compute() int8 {
	return s.do(0)
}

func (s step) load() int8 {
	at, size, _ := exec.Address(s.machine, s.x)
	loaded, e := s.memory.Read(at, size)
	if e != api.OK {
		return api.EndFault
	}
	end := s.do(loaded)
	if s.returns && loaded == 0 {
		return api.EndReturn
	}
	return end
}

func (s step) store() int8 {
	at, size, _ := exec.Address(s.machine, s.x)
	if e := s.memory.Write(at, size, exec.Stored(s.machine, s.x)); e != api.OK {
		return api.EndFault
	}
	return s.do(0)
}

func (s step) call() int8 {
	num, ok := exec.Num(s.machine)
	if !ok {
		return api.EndFault
	}
	if len(s.answers) == 0 {
		return api.EndRefused
	}
	event := api.Event{Num: num, Args: exec.Args(s.machine), Answer: s.answers[0]}
	s.answers = s.answers[1:]
	s.trace = append(s.trace, event)
	return s.do(event.Answer)
}

// do executes the instruction with what it loads. If that faults, the machine stays as it is.
func (s step) do(loaded uint64) int8 {
	m, e := exec.Do(s.machine, s.x, loaded)
	if e != api.OK {
		return api.EndFault
	}
	s.machine = m
	return api.EndFuel
}
