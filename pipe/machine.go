package pipe

import (
	"sightbench/api"
	"sightbench/image"
)

// CheckCode returns ErrVector unless a machine is valid, and ErrCode unless code is valid for it.
func CheckCode(v api.Vector, c api.Code) api.Errno {
	if !isVector(v) {
		return api.ErrVector
	}
	if !isSize(c.W, c.H) || len(c.Inputs) > api.MaxInputs || len(c.Instr) > api.MaxCode {
		return api.ErrCode
	}
	last := v.Memory - c.W*c.H
	for _, at := range c.Inputs {
		if at != -1 && !within(at, 0, last) {
			return api.ErrCode
		}
	}
	if !within(c.Output, 0, last) {
		return api.ErrCode
	}
	for _, i := range c.Instr {
		if !isInstr(v, i) {
			return api.ErrCode
		}
	}
	return api.OK
}

// isVector reports whether a machine is valid.
func isVector(v api.Vector) bool {
	return within(v.Lanes, 1, api.MaxLanes) && within(v.Registers, 2, api.MaxRegs) && within(v.Memory, 1, api.MaxMemory)
}

// isInstr reports whether an instruction is valid for a valid machine.
func isInstr(v api.Vector, i api.Instr) bool {
	switch i.Op {
	case api.CodeLoad:
		return hasRegisters(v, i.D) && isValue(i.Value) && hasAddresses(v, i.At)
	case api.CodeStore:
		return hasRegisters(v, i.A) && hasAddresses(v, i.At)
	case api.CodeSet:
		return hasRegisters(v, i.D) && isValue(i.Value)
	case api.CodePoint:
		_, e := image.Point(blank(), i.Point)
		return hasRegisters(v, i.D, i.A) && e == api.OK
	case api.CodeZip:
		_, e := image.Zip(blank(), blank(), i.How)
		return hasRegisters(v, i.D, i.A, i.B) && e == api.OK
	case api.CodeAdd:
		return hasRegisters(v, i.D, i.A) && within(i.Value, -api.MaxFactor, api.MaxFactor)
	}
	return false
}

// hasRegisters reports whether a machine has registers of all these numbers.
func hasRegisters(v api.Vector, list ...int) bool {
	for _, n := range list {
		if !within(n, 0, v.Registers-1) {
			return false
		}
	}
	return true
}

// hasAddresses reports whether a machine has as many lanes as there are addresses, and has these addresses.
func hasAddresses(v api.Vector, list []int) bool {
	if len(list) != v.Lanes {
		return false
	}
	for _, at := range list {
		if !within(at, -1, v.Memory-1) {
			return false
		}
	}
	return true
}

// isValue reports whether n may be a value of an image.
func isValue(n int) bool { return within(n, -api.MaxPix, api.MaxPix) }

// Run returns the result of code for some images.
func Run(v api.Vector, c api.Code, l []api.Image) (api.Image, api.Errno) {
	if e := CheckCode(v, c); e != api.OK {
		return api.Image{}, e
	}
	if len(l) != len(c.Inputs) || !haveSize(l, c.W, c.H) {
		return api.Image{}, api.ErrArg
	}
	m := start(v)
	for i, at := range c.Inputs {
		if at != -1 {
			copy(m.memory[at:], l[i].Pix)
		}
	}
	methods := instructions()
	for _, i := range c.Instr {
		methods[i.Op](m, i)
	}
	pix := make([]int, c.W*c.H)
	copy(pix, m.memory[c.Output:])
	return api.Image{W: c.W, H: c.H, Pix: pix}, api.OK
}

// machine is a machine at work: its words, and its registers with a number for each lane.
type machine struct {
	memory    []int
	registers [][]int
}

// start returns a valid machine before its first instruction.
func start(v api.Vector) machine {
	m := machine{memory: make([]int, v.Memory)}
	for range v.Registers {
		m.registers = append(m.registers, make([]int, v.Lanes))
	}
	return m
}

// instructions returns by their numbers the methods that carry out valid instructions.
func instructions() [api.CodeAdd + 1]func(m machine, i api.Instr) {
	return [...]func(m machine, i api.Instr){
		api.CodeLoad:  machine.load,
		api.CodeStore: machine.store,
		api.CodeSet:   machine.set,
		api.CodePoint: machine.point,
		api.CodeZip:   machine.zip,
		api.CodeAdd:   machine.add,
	}
}

func (m machine) load(i api.Instr) {
	for lane, at := range i.At {
		if at == -1 {
			m.registers[i.D][lane] = i.Value
		} else {
			m.registers[i.D][lane] = m.memory[at]
		}
	}
}

func (m machine) store(i api.Instr) {
	for lane, at := range i.At {
		if at != -1 {
			m.memory[at] = value(m.registers[i.A][lane])
		}
	}
}

func (m machine) set(i api.Instr) {
	for lane := range m.registers[i.D] {
		m.registers[i.D][lane] = i.Value
	}
}

func (m machine) point(i api.Instr) {
	r, _ := image.Point(m.row(i.A), i.Point)
	copy(m.registers[i.D], r.Pix)
}

func (m machine) zip(i api.Instr) {
	r, _ := image.Zip(m.row(i.A), m.row(i.B), i.How)
	copy(m.registers[i.D], r.Pix)
}

func (m machine) add(i api.Instr) {
	for lane, n := range m.registers[i.A] {
		m.registers[i.D][lane] = bring(m.registers[i.D][lane]+i.Value*value(n), api.MaxWide)
	}
}

// row returns a register as an image with a pixel for each lane, which is never too many.
func (m machine) row(n int) api.Image {
	r := api.Image{W: len(m.registers[n]), H: 1}
	for _, v := range m.registers[n] {
		r.Pix = append(r.Pix, value(v))
	}
	return r
}

// value returns the nearest number to n that may be a value of an image.
func value(n int) int { return bring(n, api.MaxPix) }

// bring returns the nearest number to n from -most to most.
func bring(n, most int) int { return max(-most, min(n, most)) }
