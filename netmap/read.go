package netmap

import (
	"isthmus/api"
	"isthmus/code"
)

// reader takes what was written off the front of its bytes. It goes on behind a fault,
// too, as whatever comes of that counts for nothing.
type reader struct {
	*code.Reader
	odd bool // a byte came that may not stand where it did
}

func newReader(s string) *reader { return &reader{Reader: code.New(s)} }

// sound tells whether there was no fault, and no bytes are left.
func (r *reader) sound() bool { return !r.odd && r.End() == api.OK }

func (r *reader) faulty() bool { return r.odd || r.Fault() != api.OK }

func readMap(r *reader) api.Map {
	var m api.Map
	m.Version = r.U64()
	m.Peers = readList(r, readPeer)
	m.Relays = readList(r, readRelay)
	m.Policy = r.Text()
	return m
}

func readDelta(r *reader) api.Delta {
	var d api.Delta
	d.Base = r.U64()
	d.Version = r.U64()
	d.Set = readList(r, readPeer)
	d.Gone = readList(r, readKey)
	d.HasRelays = readHas(r)
	if d.HasRelays {
		d.Relays = readList(r, readRelay)
	}
	d.HasPolicy = readHas(r)
	if d.HasPolicy {
		d.Policy = r.Text()
	}
	d.Hash = readKey(r)
	return d
}

func readPeer(r *reader) api.Peer {
	var p api.Peer
	p.Key = readKey(r)
	p.Disco = readKey(r)
	p.User = r.Text()
	p.Tags = readList(r, readText)
	p.Addrs = readList(r, readAddr)
	p.Expiry = r.U64()
	p.Relay = r.U8()
	p.Ends = readList(r, readEnd)
	return p
}

func readRelay(r *reader) api.RelayInfo {
	var x api.RelayInfo
	x.ID = r.U8()
	x.Key = readKey(r)
	x.End = readEnd(r)
	return x
}

func readEnd(r *reader) api.Endpoint {
	a := readAddr(r)
	return api.Endpoint{Addr: a, Port: r.U16()}
}

func readAddr(r *reader) api.Addr {
	switch r.U8() {
	case addrFour:
		return api.Addr{Lo: uint64(r.U32())}
	case addrSix:
		hi := r.U64()
		return api.Addr{V6: true, Hi: hi, Lo: r.U64()}
	}
	r.odd = true
	return api.Addr{}
}

// readHas tells whether what a delta may have follows.
func readHas(r *reader) bool {
	switch r.U8() {
	case hasNone:
		return false
	case hasIt:
		return true
	}
	r.odd = true
	return false
}

func readKey(r *reader) string { return r.Take(api.Key) }

func readText(r *reader) string { return r.Text() }

// readList are as many as the next bytes tell, each as one takes it off.
func readList[T any](r *reader, one func(*reader) T) []T {
	var out []T
	for range r.U16() {
		if r.faulty() {
			break
		}
		out = append(out, one(r))
	}
	return out
}
