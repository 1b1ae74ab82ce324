package bits

import (
	"shunter/api"
	"shunter/vec"
)

// most is how many bits a row of bits may have.
const most = whole * api.MaxPacket

// Row is a row of bits that grows.
type Row struct {
	bytes []byte // the last one filled up with noughts
	count int    // bits
}

// Add puts a row's bits behind.
func (r *Row) Add(v api.Vec) api.Errno {
	if r == nil || !vec.May(v) {
		return api.ErrArg
	}
	if v.W > most-r.count {
		return api.ErrLong
	}
	at := r.count
	r.count += v.W
	r.bytes = append(r.bytes, make([]byte, bytesOf(r.count)-len(r.bytes))...)
	lay(r.bytes, at, v)
	return api.OK
}

// bytesOf is how many bytes hold so many bits.
func bytesOf(count int) int {
	return (count + whole - 1) / whole
}

// Bytes puts bytes behind.
func (r *Row) Bytes(b []byte) api.Errno {
	if r == nil {
		return api.ErrArg
	}
	if r.count%whole != 0 {
		return api.ErrState
	}
	if len(b) > api.MaxPacket-len(r.bytes) {
		return api.ErrLong
	}
	r.bytes = append(r.bytes, b...)
	r.count += whole * len(b)
	return api.OK
}

// Len is how many bits there are.
func (r *Row) Len() int {
	if r == nil {
		return 0
	}
	return r.count
}

// All is a row's bytes.
func (r *Row) All() []byte {
	if r == nil {
		return nil
	}
	return fresh(r.bytes)
}
