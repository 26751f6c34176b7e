package message

import "testing"

func TestMessages(t *testing.T) {
	for _, text := range []string{
		"pull", "beat", "drain",
		"can 0", "can 1", "can 10", "can 999999",
		"fail 0 0", "fail 1 2", "fail 999999 999999",
		"sub 0 a x", "sub 1 z x", "sub 999999 abcdef 123456789012",
		"sub 1 α x", "sub 1 ω x", "sub 1 ς x", "sub 1 αβγδεω x", "sub 1 abcαβγ éééééééééééé",
		"sub 1 a !", "sub 1 a ~", "sub 1 a \u00a1", "sub 1 a \uffff", "sub 1 a \u3000",
		"sub 1 a \ud7ff", "sub 1 a \ue000", "sub 1 a \ufffd", "sub 1 a sub",
		"sub 1 sub \uffff\uffff\uffff\uffff\uffff\uffff\uffff\uffff\uffff\uffff\uffff\uffff",
		"done 0 0 x", "done 1 2 v", "done 999999 999999 123456789012", "done 1 1 \ufffd",
	} {
		if _, ok := Read(text); !ok {
			t.Errorf("%q is a message", text)
		}
	}
}

func TestNoMessages(t *testing.T) {
	for kind, texts := range map[string][]string{
		"words": {
			"", " ", "x", "Pull", "PULL", "pulls", "pul", "ſub 1 a x", "bad", "acc 1",
			" pull", "pull ", "pull 1", "beat 1", "drain 1", "beat ", "drain  ", "pull\t", "pull\r", "pull\x00",
			"can", "can ", "can  1", "can 1 ", "can 1 2", "\u00a0can 1", "can\u00a01",
			"fail", "fail 1", "fail 1 ", "fail 1 1 1", "fail 1  1",
			"sub", "sub 1", "sub 1 a", "sub 1 a ", "sub 1  x", "sub  a x", "sub 1 a x y", "sub 1 a x ", "sub  1 a x",
			"done", "done 1", "done 1 1", "done 1 1 ", "done 1 1 x y", "done 1  x",
		},
		"numbers": {
			"can x", "can 01", "can 00", "can 000000", "can 1000000", "can 0000001", "can -1", "can +1", "can 1.", "can 0x1", "can 1_0", "can ١",
			"can /", "can :", "can 1a", "can \xff",
			"fail 01 1", "fail 1 01", "fail x 1", "fail 1 x", "fail 1000000 1", "fail 1 1000000", "fail -1 1", "fail 1 -1",
			"sub 01 a x", "sub -1 a x", "sub 1000000 a x", "sub x a x",
			"done 01 1 x", "done 1 01 x", "done x 1 x", "done 1 x x", "done 1000000 1 x", "done 1 1000000 x",
		},
		"tenants": {
			"sub 1 A x", "sub 1 Z x", "sub 1 ` x", "sub 1 { x", "sub 1 a1 x", "sub 1 1 x", "sub 1 a- x",
			"sub 1 Α x", "sub 1 ά x", "sub 1 ΰ x", "sub 1 ϊ x", "sub 1 é x", "sub 1 \u212a x",
			"sub 1 abcdefg x", "sub 1 αβγδεζη x", "sub 1 abcαβγδ x",
			"sub 1 \xff x", "sub 1 \xce x", "sub 1 a\xb1 x", "sub 1 \xc1\xa1 x",
		},
		"payloads": {
			"sub 1 a 1234567890123", "done 1 1 1234567890123", "sub 1 a ééééééééééééé", "done 1 1 ééééééééééééé",
			"sub 1 a \x00", "sub 1 a \t", "sub 1 a \x1f", "sub 1 a \x7f", "sub 1 a \u0080", "sub 1 a \u009f", "sub 1 a \u00a0",
			"sub 1 a \U00010000", "sub 1 a \U0001f600", "sub 1 a \U0010ffff", "done 1 1 \U00010000", "done 1 1 \x7f",
			"sub 1 a \x80", "sub 1 a \xc3", "sub 1 a \xff", "sub 1 a x\xa9", "sub 1 a \xc0\xa1", "sub 1 a \xe0\x80\xa1",
			"sub 1 a \xed\xa0\x80", "sub 1 a \xed\xbf\xbf", "sub 1 a \xef\xbf", "done 1 1 \xff",
		},
	} {
		for _, text := range texts {
			if m, ok := Read(text); ok || m != (Message{}) {
				t.Errorf("%s: %q is no message, but: %v, %t", kind, text, m, ok)
			}
		}
	}
}

func TestPartsOfMessages(t *testing.T) {
	for text, want := range map[string]Message{
		"pull":                  {Verb: Pull},
		"beat":                  {Verb: Beat},
		"drain":                 {Verb: Drain},
		"can 0":                 {Verb: Can},
		"can 999999":            {Verb: Can, ID: 999999},
		"fail 10 2":             {Verb: Fail, ID: 10, Attempt: 2},
		"done 3 999999 é":       {Verb: Done, ID: 3, Attempt: 999999, Text: "é"},
		"done 0 0 12":           {Verb: Done, Text: "12"},
		"sub 7 αω \uffff\ufffd": {Verb: Sub, ID: 7, Tenant: "αω", Text: "\uffff\ufffd"},
		"sub 12 can sub":        {Verb: Sub, ID: 12, Tenant: "can", Text: "sub"},
	} {
		if got, ok := Read(text); !ok || got != want {
			t.Errorf("%q: %v, %t, want %v", text, got, ok, want)
		}
	}
}
