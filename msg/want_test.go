package msg_test

import (
	"encoding/binary"
	"reflect"
	"strings"

	"isthmus/api"
)

// What the chapter asks, once more: its table as a text, fields by their names.

// wantTable: the chapter's table, a type a line.
const wantTable = `
1 register From To Text
2 registered From Version End
3 poll From Version
4 full Version Data Sig
5 delta Base Version Data Sig
6 refused Code
7 probe Tx
8 seen Tx End
9 ping From Data
10 pong From Data
11 hello From
12 challenge From Tx
13 proof Data
14 send To Data
15 came From Data
16 gone To
17 init Index Data
18 resp Index Peer Data
19 load Peer Counter Data
20 ask From Tx
21 told Tx End
`

// types is how many there are; they are told from 1 on.
const types = 21

// wantLines are its lines, behind an empty one.
var wantLines = strings.Split(wantTable, "\n")

// wantRow: the name of a type, and its fields in their order; nothing, if there is none.
func wantRow(t uint8) (string, []string) {
	if t == 0 || t > types {
		return "", nil
	}
	words := strings.Fields(wantLines[t])
	return words[1], words[2:]
}

func wantHas(t uint8, field string) bool {
	_, fields := wantRow(t)
	for _, f := range fields {
		if f == field {
			return true
		}
	}
	return false
}

// fieldNames are all fields of a message but its type.
func fieldNames() []string {
	var out []string
	for _, f := range reflect.VisibleFields(reflect.TypeFor[api.Msg]()) {
		if f.Name != "Type" {
			out = append(out, f.Name)
		}
	}
	return out
}

func get(m api.Msg, field string) any { return reflect.ValueOf(m).FieldByName(field).Interface() }

// set is m with something else in a field.
func set(m api.Msg, field string, x any) api.Msg {
	reflect.ValueOf(&m).Elem().FieldByName(field).Set(reflect.ValueOf(x))
	return m
}

// exact is how many bytes a text must have that has always as many.
func exact(field string) (int, bool) {
	switch field {
	case "From", "To":
		return 32, true
	case "Tx":
		return 16, true
	case "Sig":
		return 64, true
	}
	return 0, false
}

// most is how many bytes a text may have that may have fewer.
func most(field string) (int, bool) {
	switch field {
	case "Text":
		return 64, true
	case "Data":
		return 32768, true
	}
	return 0, false
}

// wantMay: P15.1.
func wantMay(m api.Msg) api.Errno {
	if m.Type == 0 || m.Type > types {
		return api.ErrType
	}
	for _, f := range fieldNames() {
		if !wantHas(m.Type, f) {
			if !reflect.ValueOf(get(m, f)).IsZero() {
				return api.ErrField
			}
			continue
		}
		if n, is := exact(f); is && len(get(m, f).(string)) != n {
			return api.ErrField
		}
		if f == "End" && !m.End.Addr.V6 && (m.End.Addr.Hi != 0 || m.End.Addr.Lo > 0xffffffff) {
			return api.ErrField
		}
	}
	if len(m.Text) > 64 || len(m.Data) > 32768 {
		return api.ErrLong
	}
	return api.OK
}

// wantEncode: P15.1.
func wantEncode(m api.Msg) (string, api.Errno) {
	if err := wantMay(m); err != api.OK {
		return "", err
	}
	out := []byte{m.Type}
	_, fields := wantRow(m.Type)
	for _, f := range fields {
		switch x := get(m, f).(type) {
		case uint16:
			out = binary.BigEndian.AppendUint16(out, x)
		case uint32:
			out = binary.BigEndian.AppendUint32(out, x)
		case uint64:
			out = binary.BigEndian.AppendUint64(out, x)
		case api.Endpoint:
			out = append(out, wantEnd(x)...)
		case string:
			if _, is := most(f); is {
				out = append(out, byte(len(x)/256), byte(len(x)%256))
			}
			out = append(out, x...)
		}
	}
	return string(out), api.OK
}

func wantEnd(e api.Endpoint) []byte {
	whole := binary.BigEndian.AppendUint64(binary.BigEndian.AppendUint64(nil, e.Addr.Hi), e.Addr.Lo)
	out := []byte{6}
	if !e.Addr.V6 {
		out, whole = []byte{4}, whole[12:]
	}
	out = append(out, whole...)
	return append(out, byte(e.Port>>8), byte(e.Port))
}

// wantDecode: P15.2.
func wantDecode(s string) (api.Msg, api.Errno) {
	if s == "" {
		return api.Msg{}, api.ErrShort
	}
	m := api.Msg{Type: s[0]}
	_, fields := wantRow(s[0])
	if fields == nil {
		return api.Msg{}, api.ErrType
	}
	rest := s[1:]
	for _, f := range fields {
		ahead, size, err := wantField(f, get(m, f), rest)
		if err != api.OK {
			return api.Msg{}, err
		}
		m = set(m, f, wantValue(get(m, f), rest[ahead:size]))
		rest = rest[size:]
	}
	if rest != "" {
		return api.Msg{}, api.ErrForm
	}
	return m, api.OK
}

// wantField: how many bytes of the rest tell how long a field is, how many it has in
// all, or what is wrong.
func wantField(field string, kind any, rest string) (int, int, api.Errno) {
	ahead, size := 0, 0
	if n, is := exact(field); is {
		size = n
	}
	switch kind.(type) {
	case uint16:
		size = 2
	case uint32:
		size = 4
	case uint64:
		size = 8
	case api.Endpoint:
		if rest == "" {
			return 0, 0, api.ErrShort
		}
		if rest[0] != 4 && rest[0] != 6 {
			return 0, 0, api.ErrForm
		}
		size = map[byte]int{4: 7, 6: 19}[rest[0]]
	}
	if n, is := most(field); is {
		if len(rest) < 2 {
			return 0, 0, api.ErrShort
		}
		ahead, size = 2, 2+int(binary.BigEndian.Uint16([]byte(rest)))
		if size-2 > n {
			return 0, 0, api.ErrLong
		}
	}
	if len(rest) < size {
		return 0, 0, api.ErrShort
	}
	return ahead, size, api.OK
}

// wantValue: what bytes hold, of the kind that the field is of.
func wantValue(kind any, s string) any {
	b := []byte(s)
	switch kind.(type) {
	case uint16:
		return binary.BigEndian.Uint16(b)
	case uint32:
		return binary.BigEndian.Uint32(b)
	case uint64:
		return binary.BigEndian.Uint64(b)
	case api.Endpoint:
		port := binary.BigEndian.Uint16(b[len(b)-2:])
		if b[0] == 4 {
			return api.Endpoint{Addr: api.Addr{Lo: uint64(binary.BigEndian.Uint32(b[1:]))}, Port: port}
		}
		return api.Endpoint{Addr: api.Addr{V6: true, Hi: binary.BigEndian.Uint64(b[1:]), Lo: binary.BigEndian.Uint64(b[9:])}, Port: port}
	}
	return s
}
