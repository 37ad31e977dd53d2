package netmap_test

import (
	"strings"

	"isthmus/api"
)

// key is one of many that have 32 bytes, rising with n.
func key(n int) string {
	return strings.Repeat("k", 30) + string([]byte{byte(n >> 8), byte(n)})
}

func four(n uint64) api.Addr { return api.Addr{Lo: 10<<24 + n} }

func six(hi, lo uint64) api.Addr { return api.Addr{V6: true, Hi: 0xfd<<56 + hi, Lo: lo} }

func end(a api.Addr, port uint16) api.Endpoint { return api.Endpoint{Addr: a, Port: port} }

// plain is the n-th peer, with no more than it must have.
func plain(n int) api.Peer {
	return api.Peer{Key: key(n), Disco: key(0x1000 + n), User: "ann", Addrs: []api.Addr{four(uint64(n))}}
}

// small is a map of two peers.
func small(version uint64) api.Map {
	return api.Map{Version: version, Peers: []api.Peer{plain(1), plain(2)}, Policy: "accept any from * to *"}
}

// town is a map with all that may stand in one.
func town() api.Map {
	return api.Map{
		Version: 0x0102030405060708,
		Peers: []api.Peer{
			{
				Key: strings.Repeat("\x00", 32), Disco: strings.Repeat("\xff", 32), User: "a",
				Tags:  []string{"db", "web", "web-2"},
				Addrs: []api.Addr{four(0), four(9), six(0, 1), six(1, 0)}, Expiry: 1<<64 - 1, Relay: 9,
				Ends: []api.Endpoint{end(six(0, 1), 5), end(four(9), 80), end(four(9), 79), end(four(0), 0)},
			},
			plain(1),
			{Key: key(2), Disco: key(2), User: "b.c_d-9", Tags: []string{"web"}, Addrs: []api.Addr{six(7, 7)}, Expiry: 5, Relay: 1, Ends: []api.Endpoint{end(six(0, 1), 5)}},
			{Key: strings.Repeat("\xff", 32), Disco: key(3), User: "ann", Addrs: []api.Addr{{}, four(77)}, Expiry: 1},
		},
		Relays: []api.RelayInfo{
			{ID: 0, Key: key(5), End: end(four(1), 443)},
			{ID: 1, Key: key(5), End: end(four(1), 443)},
			{ID: 9, Key: key(4), End: end(six(3, 4), 65535)},
			{ID: 255, Key: key(6), End: end(api.Addr{Lo: 1<<32 - 1}, 0)},
		},
		Policy: "group dev = a ann # and others\naccept tcp from group:dev to * ports 80\n",
	}
}

// news is a delta with all that may stand in one.
func news() api.Delta {
	m := town()
	return api.Delta{
		Base: 7, Version: 0x0807060504030201, Set: m.Peers[:3], Gone: []string{key(7), strings.Repeat("\xff", 32)},
		HasRelays: true, Relays: m.Relays, HasPolicy: true, Policy: m.Policy, Hash: key(99),
	}
}

// filled is m, whose policy has remarks behind it so that its bytes are as many as size.
func filled(m api.Map, size int) api.Map {
	m.Policy += "\n#"
	m.Policy += strings.Repeat("x", size-len(wantBytes(m)))
	return m
}

// crowd is a map of so many peers that its bytes are many, too.
func crowd(version uint64, count int) api.Map {
	m := api.Map{Version: version}
	for n := range count {
		p := plain(n)
		p.User = strings.Repeat("u", 32)
		for i := range 8 {
			p.Tags = append(p.Tags, strings.Repeat("t", 31)+string([]byte{byte('a' + i)}))
		}
		m.Peers = append(m.Peers, p)
	}
	return m
}
