package tests

import (
	"math/rand"
	"slices"
	"strings"
	"testing"

	"loop.example/corbel/impl"
)

// lettersText is a text of so many kinds of bytes.
func lettersText(r *rand.Rand, long int, kinds int) string {
	b := make([]byte, long)
	for i := range b {
		b[i] = byte('a' + r.Intn(kinds))
	}
	return string(b)
}

// woundText is a text that was made by tokens, so that it has many of them.
func woundText(r *rand.Rand, long int) string {
	b := []byte{byte(r.Intn(256))}
	for len(b) < long {
		if r.Intn(3) == 0 {
			b = append(b, byte(r.Intn(256)))
			continue
		}
		back := 1 + r.Intn(len(b))
		for range 1 + r.Intn(2*impl.LongMax) {
			b = append(b, b[len(b)-back])
		}
	}
	return string(b[:long])
}

// someTexts are texts of all kinds that may be packed, the longest and the shortest among them.
func someTexts() []string {
	r := seeded(400)
	list := []string{"", "a", "\x00", "\xff", "ab", "aa", "aaa", "aaaa", "abcabcabcd", "the stone that bears the beam that bears the stone"}
	for long := range impl.TextMax + 1 {
		list = append(list, lettersText(r, long, 1+r.Intn(6)))
	}
	for _, long := range []int{1, 2, 3, 5, 17, 64, 143, 144, 200, 255, 256, 257, 299, impl.TextMax} {
		list = append(list, randomText(r, long), woundText(r, long), woundText(r, long), strings.Repeat("q", long), strings.Repeat("\x00", long))
	}
	all := make([]byte, 256)
	for i := range all {
		all[i] = byte(i)
	}
	list = append(list, string(all), string(all[:255]), string(all)+string(all[:44]))
	return list
}

// bytesAsTokens is a text, byte by byte.
func bytesAsTokens(text string) []impl.Token {
	var list []impl.Token
	for _, b := range []byte(text) {
		list = append(list, impl.Token{Byte: int(b)})
	}
	return list
}

// growSlowly is a text with what a token makes behind it; the token must be what the document lets it be.
func growSlowly(text string, token impl.Token) (string, bool) {
	switch {
	case token.Long == 0 && token.Back == 0:
		if token.Byte < 0 || token.Byte > 255 {
			return "", false
		}
		text += string([]byte{byte(token.Byte)})
	case token.Byte != 0 || token.Long < 3 || token.Long > 60 || token.Back < 1 || token.Back > 250 || token.Back > len(text):
		return "", false
	default:
		from := text[len(text)-token.Back:]
		text += strings.Repeat(from, token.Long/len(from)+1)[:token.Long]
	}
	return text, len(text) <= 300
}

// textSlowly is what tokens make.
func textSlowly(list []impl.Token) (string, bool) {
	text := ""
	for _, token := range list {
		ok := false
		if text, ok = growSlowly(text, token); !ok {
			return "", false
		}
	}
	return text, true
}

// tokensSlowly tries all tokens at each place: the longest first, of these the nearest.
func tokensSlowly(text string) []impl.Token {
	var list []impl.Token
	for place := 0; place < len(text); {
		token := impl.Token{Byte: int(text[place])}
		long := min(60, len(text)-place)
	search:
		for ; long >= 3; long-- {
			for back := 1; back <= min(250, place); back++ {
				if text[place:place+long] == text[place-back:place-back+long] {
					token = impl.Token{Long: long, Back: back}
					break search
				}
			}
		}
		list = append(list, token)
		place += max(1, token.Long)
	}
	return list
}

// randomTokens are tokens that make a text, of at most so many bytes.
func randomTokens(r *rand.Rand, most int) []impl.Token {
	var list []impl.Token
	long := 0
	for range 400 {
		token := impl.Token{Byte: r.Intn(256)}
		if long > 0 && r.Intn(2) == 0 {
			token = impl.Token{Long: impl.LongMin + r.Intn(impl.LongMax-impl.LongMin+1), Back: 1 + r.Intn(min(long, impl.BackMax))}
		}
		if long+max(1, token.Long) > most {
			continue
		}
		long += max(1, token.Long)
		list = append(list, token)
	}
	return list
}

// checkTokens holds all three that read tokens against what the document says.
func checkTokens(t *testing.T, list []impl.Token) {
	t.Helper()
	want, may := textSlowly(list)
	text, ok := impl.TokensText(list)
	if text != want || ok != may {
		t.Fatalf("TokensText %v: %q %v, not %q %v", list, text, ok, want, may)
	}
	if impl.TokensOk(list) != may {
		t.Fatalf("TokensOk %v: %v", list, !may)
	}
	long := len(want)
	if !may {
		long = -1
	}
	if got := impl.TokensLong(list); got != long {
		t.Fatalf("TokensLong %v: %d, not %d", list, got, long)
	}
}

func TestP16ATextIsReadBackFromItsTokens(t *testing.T) {
	for _, text := range someTexts() {
		list := impl.TokensOf(text)
		checkTokens(t, list)
		if got, ok := impl.TokensText(list); got != text || !ok {
			t.Fatalf("%q: %v, %q %v", text, list, got, ok)
		}
	}
}

func TestP16TextsAtTheirBounds(t *testing.T) {
	if got := impl.TokensOf(""); len(got) != 0 {
		t.Errorf("of nothing: %v", got)
	}
	if got, ok := impl.TokensText(nil); got != "" || !ok {
		t.Errorf("of no tokens: %q %v", got, ok)
	}
	if !impl.TokensOk(nil) || impl.TokensLong(nil) != 0 {
		t.Error("no tokens make no text")
	}
	for _, long := range []int{impl.TextMax + 1, impl.TextMax + 2, 1000, 100000} {
		if got := impl.TokensOf(strings.Repeat("q", long)); len(got) != 0 {
			t.Errorf("of %d bytes: %v", long, got)
		}
	}
	if got := impl.TokensOf(strings.Repeat("q", impl.TextMax)); len(got) == 0 {
		t.Errorf("of %d bytes: %v", impl.TextMax, got)
	}
}

func TestP17TokensWithoutTheLast(t *testing.T) {
	r := seeded(17)
	for range 200 {
		list := randomTokens(r, 1+r.Intn(impl.TextMax))
		checkTokens(t, list)
		text, _ := impl.TokensText(list)
		for many := len(list); many >= 0; many-- {
			begin, ok := impl.TokensText(list[:many])
			if !ok || !strings.HasPrefix(text, begin) || impl.TokensLong(list[:many]) != len(begin) {
				t.Fatalf("%v, the first %d: %q %v", list, many, begin, ok)
			}
			if many < len(list) {
				if more := max(1, list[many].Long); impl.TokensLong(list[:many+1]) != len(begin)+more {
					t.Fatalf("%v: the token at %d makes not %d bytes", list, many, more)
				}
			}
		}
	}
}

func TestP18TheLongestAndTheNearest(t *testing.T) {
	for _, text := range someTexts() {
		if got, want := impl.TokensOf(text), tokensSlowly(text); !same(got, want) {
			t.Fatalf("%q: %v, not %v", text, got, want)
		}
	}
	long := strings.Repeat("x", 3) + randomText(seeded(18), 10)
	for i, c := range []struct {
		text string
		want []impl.Token
	}{
		// Two again are too few, three are enough.
		{"abab", bytesAsTokens("abab")},
		{"abcabc", append(bytesAsTokens("abc"), impl.Token{Long: 3, Back: 3})},
		{"aaa", bytesAsTokens("aaa")},
		{"aaaa", append(bytesAsTokens("a"), impl.Token{Long: 3, Back: 1})},
		// As long twice: the nearest.
		{"abc-abc+abc", append(bytesAsTokens("abc-"), impl.Token{Long: 3, Back: 4}, impl.Token{Byte: '+'}, impl.Token{Long: 3, Back: 4})},
		// A longer one that is further away.
		{"abcd-abc+abcd", append(bytesAsTokens("abcd-"), impl.Token{Long: 3, Back: 5}, impl.Token{Byte: '+'}, impl.Token{Long: 4, Back: 9})},
		{long, bytesAsTokens(long)},
	} {
		if got := impl.TokensOf(c.text); !same(got, c.want) {
			t.Errorf("%d: %v, not %v", i, got, c.want)
		}
	}
}

// apart is a text in which no three bytes come again, nor stand in xyz.
func apart(long int) string {
	var b []byte
	for i := range long {
		b = append(b, byte('A'+i/16%16), byte('a'+i%16))
	}
	return string(b[:long])
}

func TestP18HowFarAndHowLong(t *testing.T) {
	for back := 3; back <= 253; back++ {
		text := "xyz" + apart(back-3) + "xyz"
		want := bytesAsTokens("xyz" + apart(back-3))
		if back <= impl.BackMax {
			want = append(want, impl.Token{Long: 3, Back: back})
		} else {
			want = append(want, bytesAsTokens("xyz")...)
		}
		if got := impl.TokensOf(text); !same(got, want) {
			t.Fatalf("%d back: %v", back, got[len(got)-3:])
		}
	}
	for long := 3; long <= 140; long++ {
		begin := apart(long)
		want := bytesAsTokens(begin + "!")
		for left := long; left > 0; {
			if left < impl.LongMin {
				want = append(want, bytesAsTokens(begin[long-left:])...)
				break
			}
			want = append(want, impl.Token{Long: min(left, impl.LongMax), Back: long + 1})
			left -= min(left, impl.LongMax)
		}
		if got := impl.TokensOf(begin + "!" + begin); !same(got, want) {
			t.Fatalf("%d again: %v, not %v", long, got, want)
		}
	}
}

func TestP62BytesOneByOne(t *testing.T) {
	for _, text := range someTexts() {
		list := bytesAsTokens(text)
		checkTokens(t, list)
		if got, ok := impl.TokensText(list); got != text || !ok {
			t.Fatalf("%q: %q %v", text, got, ok)
		}
	}
	for b := range 256 {
		if got, ok := impl.TokensText([]impl.Token{{Byte: b}}); got != string([]byte{byte(b)}) || !ok {
			t.Errorf("%d: %q %v", b, got, ok)
		}
	}
}

func TestP63NoTokenLeadsTooFarBack(t *testing.T) {
	for _, text := range someTexts() {
		place := 0
		for _, token := range impl.TokensOf(text) {
			if token.Back > place || token.Back > impl.BackMax || token.Long > impl.LongMax || token.Back < 0 || token.Long != 0 && token.Long < impl.LongMin || (token.Long == 0) != (token.Back == 0) {
				t.Fatalf("%q at %d: %v", text, place, token)
			}
			place += max(1, token.Long)
		}
	}
	for many := 1; many <= 253; many++ {
		begin := bytesAsTokens(apart(many))
		for _, back := range []int{many - 1, many, many + 1, impl.BackMax, impl.BackMax + 1} {
			list := append(slices.Clone(begin), impl.Token{Long: 3, Back: back})
			checkTokens(t, list)
			if may := back >= 1 && back <= many && back <= impl.BackMax; impl.TokensOk(list) != may {
				t.Fatalf("%d back behind %d bytes: %v", back, many, !may)
			}
		}
	}
	if impl.TokensOk([]impl.Token{{Long: 3, Back: 1}}) {
		t.Error("a token leads back behind the beginning")
	}
}

func TestP64ATextTwice(t *testing.T) {
	r := seeded(64)
	for long := impl.LongMin; long <= impl.LongMax; long++ {
		for _, text := range []string{randomText(r, long), lettersText(r, long, 2), woundText(r, long)} {
			for _, list := range [][]impl.Token{impl.TokensOf(text), bytesAsTokens(text)} {
				twice := append(slices.Clone(list), impl.Token{Long: long, Back: long})
				if got, ok := impl.TokensText(twice); got != text+text || !ok {
					t.Fatalf("%v: %q %v", twice, got, ok)
				}
			}
		}
	}
}

func TestATokenThatLeadsIntoItself(t *testing.T) {
	for back := 1; back <= 12; back++ {
		begin := apart(back)
		for long := impl.LongMin; long <= impl.LongMax; long++ {
			want := strings.Repeat(begin, long+1)[:back+long]
			list := append(bytesAsTokens(begin), impl.Token{Long: long, Back: back})
			if got, ok := impl.TokensText(list); got != want || !ok {
				t.Fatalf("%d bytes, %d back: %q %v", long, back, got, ok)
			}
			if got := impl.TokensOf(want); !same(got, list) {
				t.Fatalf("%q: %v, not %v", want, got, list)
			}
		}
	}
}

func TestP83OneByteManyTimesIsFewTokens(t *testing.T) {
	for _, b := range []string{"a", "\x00", "\xff"} {
		for many := 1; many <= impl.TextMax; many++ {
			want := 1 + (many-1)/impl.LongMax
			if rest := (many - 1) % impl.LongMax; rest < impl.LongMin {
				want += rest
			} else {
				want++
			}
			list := impl.TokensOf(strings.Repeat(b, many))
			if len(list) != want {
				t.Fatalf("%q %d times: %v", b, many, list)
			}
		}
	}
}

func TestP84MoreThanMayBe(t *testing.T) {
	r := seeded(84)
	for _, more := range []impl.Token{{Byte: 7}, {Byte: 0}, {Long: 3, Back: 1}, {Long: 60, Back: 200}} {
		size := max(1, more.Long)
		for long := impl.TextMax - impl.LongMax - 1; long <= impl.TextMax+1; long++ {
			list := append(bytesAsTokens(randomText(r, long)), more)
			checkTokens(t, list)
			if impl.TokensOk(list) != (long+size <= impl.TextMax) {
				t.Fatalf("%v behind %d bytes", more, long)
			}
		}
	}
	list := []impl.Token{{Byte: 'a'}}
	for range 100000 {
		list = append(list, impl.Token{Long: impl.LongMax, Back: 1})
	}
	if text, ok := impl.TokensText(list); ok || text != "" || impl.TokensLong(list) != -1 || impl.TokensOk(list) {
		t.Errorf("%d bytes, %v", len(text), ok)
	}
}

func TestTokensThatAreNone(t *testing.T) {
	begin := bytesAsTokens("abcdef")
	numbers := append([]int{0, 1, 2, 3, 5, 6, 7, 59, 60, 61, 97, 249, 250, 251, 255, 256, 258, 259}, oddNumbers...)
	for _, a := range numbers {
		for _, b := range numbers {
			for _, c := range numbers {
				token := impl.Token{Byte: a, Long: b, Back: c}
				checkTokens(t, []impl.Token{token})
				checkTokens(t, append(slices.Clone(begin), token))
				checkTokens(t, append(slices.Clone(begin), token, impl.Token{Byte: 'z'}))
			}
		}
	}
}
