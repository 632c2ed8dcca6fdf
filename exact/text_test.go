package exact_test

import (
	"strings"
	"testing"

	"sightbench/api"
	"sightbench/exact"
)

// P1.3
func TestText(t *testing.T) {
	for want, a := range map[string]api.Frac{
		"-3/2":                frac(-3, 2),
		"5":                   whole(5),
		"0":                   whole(0),
		"-1":                  whole(-1),
		"1/10":                frac(1, 10),
		"4611686018427387903": whole(most),
		"-4611686018427387903/4611686018427387902": frac(-most, most-1),
		"-1/4611686018427387903":                   frac(-1, most),
	} {
		if s, e := exact.Text(a); s != want || e != api.OK {
			t.Errorf("Text(%v): %q, %v", a, s, e)
		}
		if b, e := exact.Parse(want); b != a || e != api.OK {
			t.Errorf("Parse(%q): %v, %v", want, b, e)
		}
	}
}

// P1.3
func TestParseNoText(t *testing.T) {
	for _, s := range []string{
		"2/4", "3/1", "-0", "+1", "1/-2", "", "-", "+", "/", "1/", "/2", "-/2", "--1", "-+1", "1/+2", "0/1", "0/2", "-0/3", "00", "01", "-01", "1/02", "1/2/3", "1//2", "1/2/", "/1/2", "6/4", "3/3",
		"1/0", "0/0", "1/1", " 1", "1 ", "1 /2", "1/ 2", "\t1", "1\n", "1.0", "1e3", "0x1", "1_000", "1_0/3", "a", "1a", "\x00", "1\x00", "\xff", "1\xff", "½", "１", "٣", "−1", "1⁄2",
		"4611686018427387904", "-4611686018427387904", "1/4611686018427387904", "9223372036854775807", "-9223372036854775808", "9223372036854775808", "18446744073709551617", "1/18446744073709551618",
		"9999999999999999999999", "1/" + strings.Repeat("9", 100000), strings.Repeat("0", 100000) + "1", strings.Repeat("1/", 1000),
	} {
		if a, e := exact.Parse(s); a != (api.Frac{}) || e != api.ErrForm {
			t.Errorf("Parse(%.40q): %v, %v", s, a, e)
		}
	}
}

// P1.9
func TestParseOfText(t *testing.T) {
	for _, a := range pool() {
		s, e := exact.Text(a)
		if e != api.OK {
			t.Fatal(a, e)
		}
		if b := parse(t, s); b != a {
			t.Errorf("Parse(%q): %v instead of %v", s, b, a)
		}
	}
}

// P1.9: whatever Parse takes, of all short strings of these characters, is the text of what it returns.
func TestTextOfParse(t *testing.T) {
	count := 0
	var see func(s string)
	see = func(s string) {
		if a, e := exact.Parse(s); e == api.OK {
			count++
			if back, f := exact.Text(a); back != s || f != api.OK {
				t.Errorf("Text of Parse(%q): %q, %v", s, back, f)
			}
		}
		if len(s) < 5 {
			for _, c := range "0124+-/_ " {
				see(s + string(c))
			}
		}
	}
	see("")
	if count < 500 {
		t.Errorf("only %d strings are texts", count)
	}
}
