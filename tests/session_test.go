package tests

import (
	"fmt"
	"net/url"
	"regexp"
	"slices"
	"strconv"
	"strings"
	"testing"

	"loop.example/kilnstone/impl"
)

// lineForm is what lines of a kind look like: N stands for a number, T for a text.
func lineForm(line string) *regexp.Regexp {
	line = strings.ReplaceAll(line, "N", `(?:0|[1-9][0-9]{0,5})`)
	line = strings.ReplaceAll(line, "T", `(?:[!-$&-~]|%[0-9a-f][0-9a-f])+`)
	return regexp.MustCompile(`\A(?:` + line + `)\z`)
}

var (
	diskLine  = lineForm(`disk N N`)
	putLine   = lineForm(`put T T`)
	delLine   = lineForm(`del T`)
	eventLine = lineForm(`(?:commit|open|flush|compact)(?: N)*`)
	powerLine = lineForm(`power(?: N)*`)
	getLine   = lineForm(`get T`)
)

// talker is a second session: lines are told apart by their forms, and all that they ask for is asked of the layers below.
type talker struct {
	world   impl.World
	waiting []impl.Change
}

func newTalker() *talker {
	return &talker{world: impl.NewWorld(40, 8)}
}

// plainText is the text that a word stands for.
func plainText(word string) string {
	if word == "-" {
		return ""
	}
	plain, err := url.PathUnescape(word)
	if err != nil {
		panic(err)
	}
	return plain
}

// telling is the word that stands for a text.
func telling(text string) string {
	word := ""
	for i := range len(text) {
		if b := text[i]; b == '%' || b < 33 || b > 126 || text == "-" {
			word += fmt.Sprintf("%%%02x", b)
		} else {
			word += string(rune(b))
		}
	}
	if text == "" {
		word = "-"
	}
	return word
}

func plainNumbers(words []string) []int {
	var numbers []int
	for _, word := range words {
		n, err := strconv.Atoi(word)
		if err != nil {
			panic(err)
		}
		numbers = append(numbers, n)
	}
	return numbers
}

func (k *talker) wait(c impl.Change) string {
	k.waiting = append(k.waiting, c)
	return fmt.Sprint("wait ", len(k.waiting))
}

// event answers lines of events.
func (k *talker) event(words []string) string {
	e := impl.Event{Cut: -1}
	if numbers := plainNumbers(words[1:]); len(numbers) > 0 {
		e.Cut, e.Fates = numbers[0], numbers[1:]
	}
	code := 9
	before := k.world
	switch words[0] {
	case "open":
		e.Kind = impl.EvOpen
		if !before.Up {
			code = impl.Open(before.Disk, before.Width).Code
		}
	case "commit":
		e.Kind, e.Batch, k.waiting = impl.EvCommit, k.waiting, nil
		if before.Up {
			code = impl.Commit(before.Store, e.Batch).Code
		}
	case "flush":
		e.Kind = impl.EvFlush
		if before.Up {
			code = 0
		}
	case "compact":
		e.Kind = impl.EvCompact
		if before.Up {
			code = impl.Compact(before.Store).Code
		}
	}
	k.world = impl.Do(before, e)
	if k.world.Up {
		return fmt.Sprint("up ", code)
	}
	return fmt.Sprint("down ", code)
}

func (k *talker) found() string {
	s, code := impl.Found(k.world)
	answer := fmt.Sprint(code, " pairs ", len(s.Pairs), " wrong")
	if impl.Right(k.world) {
		answer = fmt.Sprint(code, " pairs ", len(s.Pairs), " right")
	}
	if impl.Forged(k.world) != "" {
		answer += " forged"
	}
	return answer
}

func (k *talker) answer(line string) string {
	words := strings.Split(line, " ")
	switch {
	case diskLine.MatchString(line):
		numbers := plainNumbers(words[1:])
		if numbers[0] < 8 || numbers[0] > 200 || numbers[1] < 1 || numbers[1] > 8 {
			return "no"
		}
		k.world = impl.NewWorld(numbers[0], numbers[1])
		return "ok"
	case putLine.MatchString(line):
		return k.wait(impl.Change{Key: plainText(words[1]), Value: plainText(words[2])})
	case delLine.MatchString(line):
		return k.wait(impl.Change{Key: plainText(words[1]), Gone: true})
	case eventLine.MatchString(line):
		return k.event(words)
	case powerLine.MatchString(line):
		k.world = impl.Do(k.world, impl.Event{Kind: impl.EvPower, Fates: plainNumbers(words[1:])})
		return "down"
	case getLine.MatchString(line):
		for _, p := range k.world.Past[len(k.world.Past)-1].Pairs {
			if p.Key == plainText(words[1]) {
				return telling(p.Value)
			}
		}
		return "none"
	case line == "found":
		return k.found()
	case line == "room" && k.world.Up:
		return fmt.Sprint(k.world.Store.Used, " of ", (len(k.world.Disk.Sectors)-2)/2)
	case line == "room":
		return "down"
	}
	return "bad"
}

// answers are those of a second session to a text that is not too long.
func (k *talker) answers(text string) string {
	var all strings.Builder
	for text != "" {
		line, rest, _ := strings.Cut(text, "\n")
		all.WriteString(k.answer(line) + "\n")
		text = rest
	}
	return all.String()
}

// asked holds a session's answers, line by line, against what they must be.
func asked(t *testing.T, text, want string) {
	t.Helper()
	got := impl.Session(text)
	if got == want {
		return
	}
	lines, a, b := strings.Split(text, "\n"), strings.Split(got, "\n"), strings.Split(want, "\n")
	for i := range min(len(a), len(b)) {
		if a[i] != b[i] {
			t.Fatalf("line %d, %.90q: %q, not %q, behind %.900q", i, lines[min(i, len(lines)-1)], a[i], b[i], lines[:min(i, len(lines))])
		}
	}
	t.Fatalf("%.90q: %d answers, not %d", text, len(a), len(b))
}

// talk is a session told line by line, each with its answer behind it; P15 is held against each beginning of it.
func talk(t *testing.T, turns ...string) {
	t.Helper()
	text, want := "", ""
	for i := 0; i < len(turns); i += 2 {
		text += turns[i] + "\n"
		want += turns[i+1] + "\n"
		asked(t, text, want)
		// Without its newline an empty last line is none.
		if turns[i] != "" {
			asked(t, strings.TrimSuffix(text, "\n"), want)
		}
	}
}

// allOf gives the same answer to many lines.
func allOf(answer string, lines ...string) []string {
	var turns []string
	for _, line := range lines {
		turns = append(turns, line, answer)
	}
	return turns
}

func TestTheExampleOfSessions(t *testing.T) {
	talk(t,
		"open", "up 0",
		"put a 1", "wait 1",
		"put b 2", "wait 2",
		"commit", "up 0",
		"flush", "up 0",
		"del a", "wait 1",
		"commit 1", "down 0",
		"found", "0 pairs 2 right",
		"open", "up 0",
		"get a", "1",
		"put c 3", "wait 1",
		"commit 1 64", "down 0",
		"open", "up 0",
		"get c", "3",
		"room", "5 of 19",
	)
}

func TestTextsOfSessions(t *testing.T) {
	for text, want := range map[string]string{
		"":                         "",
		"\n":                       "bad\n",
		"\n\n":                     "bad\nbad\n",
		"room":                     "down\n",
		"room\n":                   "down\n",
		"room\n\n":                 "down\nbad\n",
		"\nroom":                   "bad\ndown\n",
		"room\n\nroom":             "down\nbad\ndown\n",
		" ":                        "bad\n",
		" \n":                      "bad\n",
		"\n ":                      "bad\nbad\n",
		"room\r\nroom\r\n":         "bad\nbad\n",
		"room\rroom":               "bad\n",
		"room\x00":                 "bad\n",
		"\x00\nroom":               "bad\ndown\n",
		"room\t\nroom\v\n\x1froom": "bad\nbad\nbad\n",
		"room\x7f\n\x80\n\xff\n\n": "bad\nbad\nbad\nbad\n",
		"r\u00f6\u00f6m\n\u2028\n": "bad\nbad\n",
		"get\u00a0a\nget\u2003a":   "bad\nbad\n",
		"get\ta\nput a\tb":         "bad\nbad\n",
		"# room\n// room\nroom;":   "bad\nbad\nbad\n",
	} {
		asked(t, text, want)
	}
}

func TestSessionsThatAreTooLong(t *testing.T) {
	const tooLong = "too long\n"
	if impl.MaxSession != 20000 || impl.MaxLines != 400 {
		t.Fatalf("limits %d, %d", impl.MaxSession, impl.MaxLines)
	}
	most := strings.Repeat("room\n", impl.MaxLines)
	answers := strings.Repeat("down\n", impl.MaxLines)
	asked(t, most, answers)
	asked(t, most[:len(most)-1], answers)
	asked(t, most[:len(most)-5]+"\n", answers[:len(answers)-5]+"bad\n")
	for _, more := range []string{"\n", " ", "room", "room\n", "\n\n", "x\n\n", "\nroom"} {
		asked(t, most+more, tooLong)
	}
	asked(t, strings.Repeat("\n", impl.MaxLines), strings.Repeat("bad\n", impl.MaxLines))
	asked(t, strings.Repeat("\n", impl.MaxLines)+"x", tooLong)
	asked(t, strings.Repeat("\n", impl.MaxLines+1), tooLong)
	asked(t, strings.Repeat("\n", impl.MaxSession), tooLong)

	size := impl.MaxSession
	asked(t, strings.Repeat("x", size), "bad\n")
	asked(t, strings.Repeat("x", size-1)+"\n", "bad\n")
	asked(t, strings.Repeat(" ", size), "bad\n")
	asked(t, strings.Repeat("x", size)+"\n", tooLong)
	asked(t, strings.Repeat("x", size+1), tooLong)
	asked(t, "room\n"+strings.Repeat("x", size-5), "down\nbad\n")
	asked(t, "room\n"+strings.Repeat("x", size-4), tooLong)
	asked(t, "get "+strings.Repeat("k", size-4), "none\n")
	asked(t, "get "+strings.Repeat("k", size-3), tooLong)
	asked(t, "power"+strings.Repeat(" 1", (size-5)/2), "down\n")
	asked(t, strings.Repeat("room\n", size), tooLong)
	// Bytes count, not runes.
	asked(t, strings.Repeat("\u00e9", size/2), "bad\n")
	asked(t, strings.Repeat("\u00e9", size/2)+"x", tooLong)

	// Both limits at once
	line := strings.Repeat("x", size/impl.MaxLines-1) + "\n"
	asked(t, strings.Repeat(line, impl.MaxLines), strings.Repeat("bad\n", impl.MaxLines))
	asked(t, strings.Repeat(line, impl.MaxLines)+"x", tooLong)
}

func TestLinesAndWords(t *testing.T) {
	talk(t, allOf("bad",
		"", " ", "  ", "-", "%", "0", "1", "N", "bad", "ok", "up", "down", "too long",
		"disks 8 1", "dis 8 1", "puts a b", "pu a b", "dels a", "de a", "delete a", "commits", "commi", "opens", "ope", "flushs", "flus", "flushh", "compacts", "compac", "powers", "powe", "gets a", "ge a", "founds", "foun", "rooms", "roo",
		"Open", "OPEN", "oPen", "%6fpen", "open%", "open,", "help", "set a b", "begin",
	)...)
	talk(t, allOf("bad",
		"disk", "disk 8", "disk 8 1 1", "disk 8 1 x", "put", "put a", "put a b c", "put a b -", "del", "del a b", "get", "get a b", "found x", "found 1", "found -", "room x", "room 1", "room room", "found found",
	)...)
	for _, line := range []string{"disk 8 1", "put a b", "del a", "commit", "commit 1 2", "open", "open 1 2", "flush", "flush 1", "compact", "compact 1", "power", "power 1 2", "get a", "found", "room"} {
		talk(t, allOf("bad", " "+line, line+" ", "  "+line, line+"  ", line+" \r", strings.Replace(line+" ", " ", "  ", 1), strings.ReplaceAll(" "+line, " ", "  "), strings.ReplaceAll(line, " ", "\t")+"\t")...)
		if words := strings.Split(line, " "); len(words) > 2 {
			talk(t, allOf("bad", strings.Join(words, "  "), words[0]+" "+words[1]+"  "+words[2], words[0]+"  "+words[1]+" "+words[2])...)
		}
	}
	// A line that is bad does nothing.
	talk(t,
		"open", "up 0",
		"put a 1", "wait 1",
		"put b", "bad",
		"put c 1 2", "bad",
		"commit x", "bad",
		"commit 1 x", "bad",
		" commit", "bad",
		"commit ", "bad",
		"power x", "bad",
		"flush 0 64 x", "bad",
		"compact 01", "bad",
		"disk 8 x", "bad",
		"disk 8 1 1", "bad",
		"del b", "wait 2",
		"commit", "up 0",
		"room", "2 of 19",
		"get a", "1",
	)
}

func TestNumbersInSessions(t *testing.T) {
	none := []string{"00", "01", "007", "000000", "000001", "1234567", "1000000", "0123456", "99999999999999999999999", "-1", "-0", "+1", "+0", "-", "x", "1x", "x1", "1.0", "1e1", "0x1", "0b1", "1_0", "%31", "1,", "\u0661", "1\x00", "1\r"}
	for _, n := range none {
		talk(t, allOf("bad", "open "+n, "commit "+n, "flush "+n, "compact "+n, "power "+n, "open 1 "+n, "open 1 1 "+n+" 1", "power 1 "+n, "power "+n+" 1", "disk "+n+" 1", "disk 8 "+n, "disk "+n+" "+n, "room")[:12*2]...)
	}
	for _, n := range []string{"0", "1", "9", "10", "64", "65", "100000", "123456", "999999", "100", "909090"} {
		talk(t, "power "+n, "down", "power 0 "+n+" "+n, "down", "commit "+n, "down 9", "flush 0 "+n, "down 9", "compact "+n+" 0", "down 9")
	}
	// No Cut of six digits is behind an Op, and so none cuts short.
	talk(t, "open 999999 1", "up 0", "flush 100000", "up 0", "compact 999999", "up 0", "put a 1", "wait 1", "commit 999999", "up 0", "found", "0 pairs 0 right", "power 999999", "down", "found", "0 pairs 1 right")
	talk(t, "disk 999999 1", "no", "disk 8 999999", "no", "disk 0 0", "no", "disk 0 1", "no", "disk 8 0", "no")
}

func TestDisksOfSessions(t *testing.T) {
	for _, sectors := range []int{0, 1, 7, 8, 9, 39, 40, 199, 200, 201, 999999} {
		for _, width := range []int{0, 1, 2, 7, 8, 9, 10, 999999} {
			answer := "no"
			half := 19
			if sectors >= 8 && sectors <= 200 && width >= 1 && width <= 8 {
				answer, half = "ok", (sectors-2)/2
			}
			talk(t, fmt.Sprint("disk ", sectors, " ", width), answer, "open", "up 0", "room", fmt.Sprint("1 of ", half))
		}
	}
	// What waits goes on waiting, whatever is answered; the world is another one, or the same.
	talk(t,
		"open", "up 0",
		"put a 1", "wait 1",
		"commit", "up 0",
		"put b 2", "wait 1",
		"disk 7 1", "no",
		"room", "2 of 19",
		"get a", "1",
		"put c 3", "wait 2",
		"disk 8 9", "no",
		"room", "2 of 19",
		"disk 10 2", "ok",
		"room", "down",
		"get a", "none",
		"found", "0 pairs 0 right",
		"del b", "wait 3",
		"open", "up 0",
		"commit", "up 0",
		"room", "2 of 4",
		"get a", "none",
		"get b", "none",
		"get c", "3",
		"disk 10 2", "ok",
		"get c", "none",
		"found", "0 pairs 0 right",
		"put d 4", "wait 1",
		"disk 8 1", "ok",
		"commit", "down 9",
		"put e 5", "wait 1",
	)
	// The width is that of the sums: two pages of 55 bytes, or three of 48.
	long := strings.Repeat("v", 100)
	talk(t, "disk 40 1", "ok", "open", "up 0", "put abcdef "+long, "wait 1", "commit", "up 0", "room", "3 of 19")
	talk(t, "disk 40 8", "ok", "open", "up 0", "put abcdef "+long, "wait 1", "commit", "up 0", "room", "4 of 19")
	talk(t, "open", "up 0", "put abcdef "+long, "wait 1", "commit", "up 0", "room", "4 of 19")
}

// stored is what a session tells of a value that was committed by the word put.
func stored(word, told string) []string {
	return []string{"open", "up 0", "put k " + word, "wait 1", "commit", "up 0", "get k", told, "power 64 64 64 64", "down", "open", "up 0", "get k", told}
}

func TestTextsInSessions(t *testing.T) {
	for word, told := range map[string]string{
		"-": "-", "--": "--", "%2d": "%2d", "%2d%2d": "--", "-%2d": "--", "a-": "a-", "-a": "-a", "a-b": "a-b", "---": "---",
		"%25": "%25", "%2525": "%2525", "%2520": "%2520", "a%25": "a%25", "%00": "%00", "%ff": "%ff", "%0a": "%0a", "%0d": "%0d", "%20": "%20", "%7f": "%7f", "%80": "%80",
		"%21": "!", "!": "!", "%7e": "~", "~": "~", "%41": "A", "A%ff": "A%ff", "%41%42": "AB", "%61b%63": "abc", "%c3%a9": "%c3%a9", "%1f": "%1f", "%09": "%09",
		"0": "0", "none": "none", "%6e%6f": "no", "0%300": "000", "%30%30": "00", "%000": "%000", "%fff": "%fff", "%aa%bb": "%aa%bb", "\"": "\"", "\\n": "\\n", "+": "+", "a+b": "a+b", "&=/?#": "&=/?#",
	} {
		talk(t, stored(word, told)...)
	}
	none := []string{"%", "%%", "%4", "a%", "a%4", "%4g", "%g4", "%GG", "%FF", "%fF", "%Ff", "%A0", "%0A", "%-1", "%+1", "%x4", "% ", "%4%", "%4%41", "%%41", "%\u0661\u0661", "%00%", "%00%0", "%2", "-%", "-%2", "%2D",
		"\x00", "\x01", "\t", "\r", "\x1f", "\x7f", "\x80", "\xff", "a\x7f", "a\xffb", "\u00e9", "a\r", "\va"}
	for _, word := range none {
		talk(t, "put k v", "wait 1", "put "+word+" v", "bad", "put k "+word, "bad", "del "+word, "bad", "get "+word, "bad", "put k v", "wait 2")
	}
	// Every byte, as itself where it may stand so and by its two digits, in values and in keys
	for b := range 256 {
		code := fmt.Sprintf("%%%02x", b)
		itself := b >= 33 && b <= 126 && b != '%'
		told := code
		if itself && b != '-' {
			told = string(rune(b))
		}
		within := "a" + code + "b"
		if itself {
			within = "a" + string(rune(b)) + "b"
		}
		turns := []string{"open", "up 0", "put k " + code, "wait 1", "put " + code + " key", "wait 2", "put w a" + code + "b", "wait 3", "commit", "up 0"}
		// The keys k and w are themselves among them.
		if b != 'k' {
			turns = append(turns, "get k", told)
		}
		if b != 'w' {
			turns = append(turns, "get "+code, "key", "get w", within)
		}
		raw := string([]byte{byte(b)})
		switch {
		case itself && b != '-':
			turns = append(turns, "put q "+raw, "wait 1", "put q a"+raw+"b", "wait 2", "commit", "up 0", "get q", within)
		case b != '-' && b != '\n':
			turns = append(turns, allOf("bad", "put q "+raw, "put q a"+raw+"b", "del "+raw, "get "+raw+raw)...)
		}
		talk(t, turns...)
	}
}

func TestChangesThatWait(t *testing.T) {
	key, value := strings.Repeat("k", impl.MaxKey), strings.Repeat("v", impl.MaxValue)
	behind := []string{"put z 1", "wait 1", "commit", "up 0", "get z", "1"}
	for name, turns := range map[string][]string{
		"none":                {"commit", "up 1", "commit 0", "up 1", "commit 0 64", "up 1", "commit 1", "up 1"},
		"the longest key":     {"put " + key + " 1", "wait 1", "commit", "up 0", "get " + key, "1"},
		"a key too long":      {"put " + key + "k 1", "wait 1", "commit", "up 1", "get " + key + "k", "none"},
		"the longest, gone":   {"del " + key, "wait 1", "commit", "up 0"},
		"too long, gone":      {"del " + key + "k", "wait 1", "commit", "up 1"},
		"the longest value":   {"put k " + value, "wait 1", "commit", "up 0", "get k", value},
		"a value too long":    {"put k " + value + "v", "wait 1", "commit", "up 1", "get k", "none"},
		"bytes count":         {"put k " + strings.Repeat("%ff", impl.MaxValue), "wait 1", "commit", "up 0", "get k", strings.Repeat("%ff", impl.MaxValue)},
		"bytes of a key":      {"put " + strings.Repeat("%2d", impl.MaxKey) + " 1", "wait 1", "commit", "up 0", "get " + strings.Repeat("-", impl.MaxKey), "1"},
		"an empty key":        {"put - 1", "wait 1", "commit", "up 1", "get -", "none", "put - 1", "wait 1", "commit 0 64", "up 1"},
		"an empty key, gone":  {"del -", "wait 1", "commit", "up 1"},
		"an empty value":      {"put k -", "wait 1", "commit", "up 0", "get k", "-"},
		"one of them broken":  {"put k 1", "wait 1", "put - 1", "wait 2", "put l 1", "wait 3", "commit", "up 1", "get k", "none", "get l", "none"},
		"in their order":      {"put k 1", "wait 1", "put k 2", "wait 2", "del k", "wait 3", "put k 3", "wait 4", "put l 1", "wait 5", "del l", "wait 6", "commit", "up 0", "get k", "3", "get l", "none"},
		"gone that never was": {"del k", "wait 1", "commit", "up 0", "get k", "none"},
	} {
		t.Run(name, func(t *testing.T) {
			talk(t, slices.Concat([]string{"open", "up 0"}, turns, behind)...)
		})
	}
	// As many as a batch can have, and more
	for _, count := range []int{19, 20, 21, 22, 40} {
		turns := []string{"disk 200 8", "ok", "open", "up 0"}
		for i := range count {
			turns = append(turns, fmt.Sprint("put k", i, " ", i), fmt.Sprint("wait ", i+1))
		}
		if count <= impl.MaxBatch {
			turns = append(turns, "commit", "up 0", "get k18", "18", "found", "0 pairs 0 right", "flush", "up 0", "found", fmt.Sprint("0 pairs ", count, " right"))
		} else {
			turns = append(turns, "commit", "up 1", "get k0", "none", "room", "1 of 99", "flush", "up 0", "found", "0 pairs 0 right")
		}
		talk(t, slices.Concat(turns, behind)...)
	}
	all, want := "", ""
	for i := range impl.MaxLines {
		all += "del k\n"
		want += fmt.Sprint("wait ", i+1, "\n")
	}
	asked(t, all, want)
}

// puts lets changes of keys to the empty value wait.
func puts(keys string) []string {
	var turns []string
	for i := range len(keys) {
		turns = append(turns, "put "+keys[i:i+1]+" -", fmt.Sprint("wait ", i+1))
	}
	return turns
}

// Code 1 of commit is told in TestChangesThatWait.
func TestCodesThatCommitTells(t *testing.T) {
	talk(t, "commit", "down 9", "put a 1", "wait 1", "commit", "down 9", "put a 1", "wait 1", "commit 0 64", "down 9", "put a 1", "wait 1")
	// 2: more pairs than a state can have; none goes, and one may take the place of one that goes.
	turns := []string{"disk 200 1", "ok", "open", "up 0"}
	for at := 33; at < 33+5*impl.MaxBatch; at += impl.MaxBatch {
		for i := range impl.MaxBatch {
			turns = append(turns, fmt.Sprintf("put %%%02x -", at+i), fmt.Sprint("wait ", i+1))
		}
		turns = append(turns, "commit", "up 0")
	}
	turns = append(turns, "flush", "up 0", "found", "0 pairs 100 right", "put more -", "wait 1", "commit", "up 2", "put a -", "wait 1", "commit 0", "down 0", "open", "up 0",
		"put more -", "wait 1", "commit 1 64", "up 2", "get more", "none", "put more -", "wait 1", "del a", "wait 2", "commit", "up 0", "get more", "-", "get a", "none")
	text, want := "", ""
	for i := 0; i < len(turns); i += 2 {
		text, want = text+turns[i]+"\n", want+turns[i+1]+"\n"
	}
	asked(t, text, want)
	// 3: no room for the state in a half, though there is for the batch; and ahead of 4, where there is none for either.
	long := strings.Repeat("v", 100)
	talk(t, "disk 8 8", "ok", "open", "up 0",
		"put a "+long, "wait 1", "commit", "up 3",
		"put a "+long, "wait 1", "commit 0", "up 3",
		"put a "+long, "wait 1", "commit 3 64", "up 3",
		"room", "1 of 3", "get a", "none",
		"put a "+long[:90], "wait 1", "commit", "up 0",
		"room", "3 of 3",
		"put b 1", "wait 1", "commit", "up 3",
		"put a 1", "wait 1", "commit", "up 4",
		"put a 1", "wait 1", "commit 0", "up 4",
		"put a 1", "wait 1", "commit 1 64", "up 4",
		"put - 1", "wait 1", "commit", "up 1",
		"get a", long[:90],
		"compact", "up 0",
		"room", "3 of 3",
		"flush 0", "down 0",
		"put b 1", "wait 1", "commit", "down 9",
		"found", "0 pairs 1 right",
	)
	// 4: the pages are more than the sectors that are left, by one or by all.
	talk(t, "disk 10 8", "ok", "open", "up 0",
		"put a "+long[:60], "wait 1", "commit", "up 0", "room", "3 of 4",
		"put a "+long[:60], "wait 1", "commit", "up 4", "room", "3 of 4",
		"put a 1", "wait 1", "commit", "up 0", "room", "4 of 4",
		"del a", "wait 1", "commit", "up 4",
		"get a", "1",
		"compact", "up 0", "room", "2 of 4",
		"del a", "wait 1", "commit", "up 0", "get a", "none",
	)
}

func TestCutsOfCommit(t *testing.T) {
	long := strings.Repeat("v", 60)
	open := []string{"open", "up 0", "put a 1", "wait 1", "commit", "up 0", "flush", "up 0", "put a " + long, "wait 1"}
	for cut, found := range map[string]string{
		"0":          "0 pairs 1 right | 1",
		"0 64 64":    "0 pairs 1 right | 1",
		"1":          "0 pairs 1 right | 1",
		"1 64":       "0 pairs 1 right | 1",
		"1 64 64":    "0 pairs 1 right | 1",
		"2":          "0 pairs 1 right | 1",
		"2 64":       "0 pairs 1 right | 1",
		"2 64 63":    "0 pairs 1 right | " + long,
		"2 64 28":    "0 pairs 1 right | 1",
		"2 0 64":     "0 pairs 1 right | 1",
		"2 64 64":    "0 pairs 1 right | " + long,
		"2 999999 0": "0 pairs 1 right | 1",
		"2 65 70 80": "0 pairs 1 right | " + long,
	} {
		told, value, _ := strings.Cut(found, " | ")
		// The last of Past is the batch's state until the map is opened.
		talk(t, slices.Concat(open, []string{"commit " + cut, "down 0", "get a", long, "room", "down", "put z 1", "wait 1", "found", told, "open", "up 0", "get a", value, "found", told})...)
	}
	for _, cut := range []string{"", " 3", " 3 64 64", " 4", " 999999 0 0"} {
		talk(t, slices.Concat(open, []string{"commit" + cut, "up 0", "get a", long, "room", "4 of 19", "put z 1", "wait 1", "power", "down", "get a", long, "open", "up 0", "get a", "1"})...)
	}
}

func TestOpenFlushAndCompactInSessions(t *testing.T) {
	for _, with := range []string{"", " 0", " 1 64", " 999999", " 0 0 0 0"} {
		talk(t, "flush"+with, "down 9", "compact"+with, "down 9", "commit"+with, "down 9", "room", "down", "open", "up 0", "open"+with, "up 9", "room", "1 of 19", "open"+with, "up 9")
	}
	// Open: two Ops
	for cut, used := range map[string]string{"0": "1 of 19", "0 64": "1 of 19", "1": "1 of 19", "1 14": "1 of 19", "1 15": "2 of 19", "1 64": "2 of 19", "2": "2 of 19", "2 0": "2 of 19"} {
		talk(t, "open "+cut, "down 0", "room", "down", "get a", "none", "found", "0 pairs 0 right", "open", "up 0", "room", used)
	}
	for _, cut := range []string{"3", "3 0", "4", "999999 64"} {
		talk(t, "open "+cut, "up 0", "room", "1 of 19")
	}
	// Flush: one
	batch := []string{"open", "up 0", "put a 1", "wait 1", "commit", "up 0"}
	for cut, pairs := range map[string]string{"flush 0": "0", "flush 0 64": "1", "flush 0 15": "0", "flush 1": "1", "flush 1 0": "1"} {
		talk(t, slices.Concat(batch, []string{cut, "down 0", "get a", "1", "found", "0 pairs " + pairs + " right"})...)
	}
	for _, cut := range []string{"flush", "flush 2", "flush 2 0", "flush 999999"} {
		talk(t, slices.Concat(batch, []string{"found", "0 pairs 0 right", cut, "up 0", "found", "0 pairs 1 right", "room", "2 of 19"})...)
	}
	// Compact: the page of the life, one of the batch, a sync, the root, a sync
	for cut, told := range map[string]string{
		"compact 0": "0 2 of 19", "compact 1": "0 2 of 19", "compact 2 64 64 64": "1 3 of 19", "compact 2 0 64 64": "0 2 of 19",
		"compact 3": "1 3 of 19", "compact 4": "1 3 of 19", "compact 4 64": "1 3 of 19", "compact 4 30": "1 3 of 19", "compact 5": "1 3 of 19", "compact 5 0 0": "1 3 of 19",
	} {
		pairs, room, _ := strings.Cut(told, " ")
		talk(t, slices.Concat(batch, []string{cut, "down 0", "get a", "1", "found", "0 pairs " + pairs + " right", "open", "up 0", "room", room})...)
	}
	for _, cut := range []string{"compact", "compact 6", "compact 6 0", "compact 999999"} {
		talk(t, slices.Concat(batch, []string{"put b 2", "wait 1", "put a 2", "wait 2", "commit", "up 0", "room", "3 of 19", cut, "up 0", "room", "2 of 19", "found", "0 pairs 2 right", "get a", "2"})...)
	}
	// What waits is commit's alone.
	talk(t, "put a 1", "wait 1", "open", "up 0", "flush", "up 0", "compact", "up 0", "power", "down", "found", "0 pairs 0 right", "room", "down", "get a", "none", "open", "up 0", "put b 1", "wait 2", "commit", "up 0", "get a", "1", "get b", "1")
}

func TestPowerInSessions(t *testing.T) {
	batches := []string{"open", "up 0", "put a 1", "wait 1", "commit", "up 0", "put b 2", "wait 1", "commit", "up 0"}
	for power, pairs := range map[string]string{
		"power": "0", "power 0": "0", "power 64": "1", "power 64 0": "1", "power 64 64": "2", "power 0 64": "0", "power 15 64": "0", "power 999999 999999 999999": "2", "power 64 63": "2", "power 64 15 64": "1", "power 65 100": "2",
	} {
		talk(t, slices.Concat(batches, []string{power, "down", "get b", "2", "room", "down", "found", "0 pairs " + pairs + " right", power, "down", "found", "0 pairs " + pairs + " right", "open", "up 0", "found", "0 pairs " + pairs + " right"})...)
	}
	talk(t, slices.Concat(batches, allOf("bad", "power x", "power 1 x", "power -1", "power 1 01", "power -", "power 1234567", "power 64 64 "), []string{"room", "3 of 19", "found", "0 pairs 0 right"})...)
	talk(t, "power", "down", "power 1 2 3", "down", "open", "up 0", "power", "down", "power", "down")
}

func TestGetInSessions(t *testing.T) {
	talk(t,
		"get a", "none", "get -", "none", "get "+strings.Repeat("k", 50), "none",
		"put a 1", "wait 1", "get a", "none",
		"open", "up 0", "get a", "none",
		"commit", "up 0", "get a", "1", "get A", "none", "get aa", "none", "get %61", "1",
		"put a 2", "wait 1", "get a", "1", "commit", "up 0", "get a", "2",
		"del a", "wait 1", "commit 0", "down 0", "get a", "none",
		"open", "up 0", "get a", "none",
		"put a 3", "wait 1", "commit", "up 0", "flush", "up 0",
		"put a 4", "wait 1", "commit 1 12", "down 0", "get a", "4",
		"open 1", "down 0", "get a", "4",
		"open", "up 0", "get a", "3",
		"del a", "wait 1", "commit", "up 0", "get a", "none",
		"power", "down", "get a", "none", "open 0", "down 0", "get a", "none", "open", "up 0", "get a", "3",
		"put a %25", "wait 1", "commit 9", "up 0", "get a", "%25",
	)
}

func TestFoundInSessions(t *testing.T) {
	// A torn page with a right sum: what it reads as was never committed.
	talk(t, "disk 8 1", "ok", "open", "up 0", "put a value5", "wait 1", "commit 1 13", "down 0",
		"found", "0 pairs 1 wrong forged", "get a", "value5", "open 0", "down 0", "found", "0 pairs 1 wrong forged",
		"open", "up 0", "found", "0 pairs 1 right forged", "get a", strings.Repeat("%00", 6))
	// It reads as an entry that is no batch.
	talk(t, "disk 8 1", "ok", "open", "up 0", "put a value173", "wait 1", "commit 1 9", "down 0",
		"found", "2 pairs 0 wrong forged", "get a", "value173", "open", "down 2", "open 0", "down 2", "open 1 64", "down 2", "room", "down", "flush", "down 9", "found", "2 pairs 0 wrong forged",
		"disk 8 1", "ok", "found", "0 pairs 0 right")
	// It is put together with an older page and gives a state that has no room.
	turns := slices.Concat(
		[]string{"disk 8 1", "ok", "open", "up 0", "put x 1", "wait 1", "commit", "up 0"},
		puts("nopqrstuvwxyz"), []string{"commit", "up 0", "power 0 64", "down", "found", "0 pairs 0 right", "open", "up 0", "compact", "up 0", "compact", "up 0"},
		puts("abcdefghijklm"), []string{"commit", "up 0", "flush", "up 0", "found", "0 pairs 13 right"},
		puts("bdadefghijklm"), []string{"commit 1 9", "down 0", "found", "4 pairs 0 wrong forged", "get m", "-", "open", "down 4", "open 2", "down 4", "room", "down"},
	)
	talk(t, turns...)
	talk(t, "found", "0 pairs 0 right", "open", "up 0", "found", "0 pairs 0 right", "put a 1", "wait 1", "found", "0 pairs 0 right", "commit", "up 0", "found", "0 pairs 0 right", "flush", "up 0", "found", "0 pairs 1 right", "put b 1", "wait 1", "commit 1 64", "down 0", "found", "0 pairs 2 right")
}

func TestRoomInSessions(t *testing.T) {
	talk(t, "room", "down", "open", "up 0", "room", "1 of 19", "power", "down", "room", "down", "open", "up 0", "room", "2 of 19", "put a 1", "wait 1", "room", "2 of 19", "commit", "up 0", "room", "3 of 19", "flush", "up 0", "room", "3 of 19", "compact", "up 0", "room", "2 of 19", "flush 1", "down 0", "room", "down",
		"disk 9 1", "ok", "room", "down", "open", "up 0", "room", "1 of 3", "disk 200 1", "ok", "open", "up 0", "room", "1 of 99")
}

// When no more sectors can be remembered nothing happens, and the code that is told is the call's all the same.
func TestACodeOfACallThatDoesNotHappen(t *testing.T) {
	text := "disk 200 1\n" + strings.Repeat("open 1\n", 20) + "open\n"
	for i := range 80 {
		text += fmt.Sprintf("put %%%02x %s\n", 33+i, strings.Repeat("v", 50))
		if i%10 == 9 {
			text += "commit\n"
		}
	}
	text += strings.Repeat("compact\n", 23)
	k := newTalker()
	want := k.answers(text)
	asked(t, text, want)
	if free := impl.MaxWritten - len(k.world.Written); !k.world.Up || free < 2 || free > 15 || len(impl.Compact(k.world.Store).Ops) < 70 {
		t.Fatalf("%s", brief(k.world))
	}
	tell := func(line, answer string) {
		t.Helper()
		if got := k.answer(line); got != answer {
			t.Fatalf("%q: the model answers %q, not %q", line, got, answer)
		}
		text, want = text+line+"\n", want+answer+"\n"
		asked(t, text, want)
	}
	used := k.world.Store.Used
	tell("put z 1", "wait 1")
	tell("commit", "up 0")
	tell("room", fmt.Sprint(used+1, " of 99"))
	tell("compact", "up 0")
	tell("compact 70", "up 0")
	tell("room", fmt.Sprint(used+1, " of 99"))
	for len(k.world.Written) < impl.MaxWritten && k.world.Store.Used < 98 {
		tell("put z 2", "wait 1")
		tell("commit", "up 0")
		if len(strings.Split(text, "\n")) > impl.MaxLines-20 {
			t.Fatalf("%s", brief(k.world))
		}
	}
	if len(k.world.Written) != impl.MaxWritten {
		t.Fatalf("%s", brief(k.world))
	}
	tell("put z 3", "wait 1")
	tell("commit", "up 0")
	tell("get z", "2")
	tell("put z 4", "wait 1")
	tell("commit 1 64", "up 0")
	tell("get z", "2")
	tell("put z 5", "wait 1")
	tell("commit 0 64", "down 0")
	tell("get z", "5")
	tell("open", "down 0")
	tell("open 1 64", "down 0")
	tell("room", "down")
	tell("put z 6", "wait 1")
}

// drawnKey is the word of a key, mostly of one of few.
func drawnKey(r *dice) string {
	switch r.roll(30) {
	case 0:
		return "-"
	case 1:
		return telling(text(1 + r.roll(22)))
	case 2:
		return fmt.Sprintf("%%%02x", r.roll(256))
	}
	return string(rune('a' + r.roll(4)))
}

// drawnValue is the word of a value, mostly of one that does not come again.
func drawnValue(r *dice) string {
	switch r.roll(12) {
	case 0:
		return []string{"-", "%2d", "%25", "--"}[r.roll(4)]
	case 1, 2:
		return telling(text(r.roll(102)))
	case 3:
		return fmt.Sprintf("%%%02x", r.roll(256))
	}
	return strconv.Itoa(r.roll(1000000))
}

// drawnNumbers are few and mostly small.
func drawnNumbers(r *dice, most int) string {
	words := ""
	for range r.roll(most + 1) {
		words += " " + []string{"0", "1", "2", "3", "64", "64", strconv.Itoa(r.roll(70)), strconv.Itoa(r.roll(1000000)), strconv.Itoa(6 + r.roll(14)), strconv.Itoa(6 + r.roll(14)), strconv.Itoa(6 + r.roll(14))}[r.roll(11)]
	}
	return words
}

// drawnLine is one that mostly does something.
func drawnLine(r *dice, up bool) string {
	line := []string{"open", "open", "open", "open", "power", "get", "found", "put", "commit", "flush", "compact", "room"}[r.roll(12)]
	if up {
		line = []string{"put", "put", "del", "commit", "commit", "commit", "commit", "flush", "compact", "power", "get", "found", "room", "open"}[r.roll(14)]
	}
	if r.roll(60) == 0 {
		line = "disk"
	}
	switch line {
	case "put":
		line += " " + drawnKey(r) + " " + drawnValue(r)
	case "del", "get":
		line += " " + drawnKey(r)
	case "power":
		line += drawnNumbers(r, 6)
	case "disk":
		line += " " + strconv.Itoa(6+r.roll(12)) + " " + strconv.Itoa(r.roll(3)*r.roll(6))
	case "open", "commit", "flush", "compact":
		if r.roll(3) == 0 {
			line += drawnNumbers(r, 6)
		}
	}
	if r.roll(25) == 0 {
		at := r.roll(len(line) + 1)
		line = line[:at] + []string{" ", "x", "%", "0", "-", "\r", "\x7f", "\xff", "f"}[r.roll(9)] + line[at:]
	}
	return line
}

// drawnSession are so many lines with their newlines.
func drawnSession(r *dice, lines int) []string {
	k := newTalker()
	var drawn []string
	if r.roll(4) > 0 {
		drawn = append(drawn, "disk "+strconv.Itoa(8+r.roll(9))+" "+[]string{"1", "1", "2", "8"}[r.roll(4)]+"\n")
		k.answer(strings.TrimSuffix(drawn[0], "\n"))
	}
	for len(drawn) < lines {
		line := drawnLine(r, k.world.Up)
		k.answer(line)
		drawn = append(drawn, line+"\n")
	}
	return drawn
}

func TestDrawnSessions(t *testing.T) {
	r := dice(50)
	seen := map[string]int{}
	for range 300 {
		text := strings.Join(drawnSession(&r, 100), "")
		if len(text) > impl.MaxSession {
			continue
		}
		want := newTalker().answers(text)
		asked(t, text, want)
		for _, answer := range strings.Split(want, "\n") {
			seen[answer]++
			if strings.HasSuffix(answer, "wrong forged") {
				seen["wrong forged"]++
			}
		}
	}
	for _, answer := range []string{"ok", "no", "bad", "up 0", "up 1", "up 3", "up 4", "up 9", "down", "down 0", "down 9", "none", "-", "%2d", "0 pairs 2 right", "wrong forged", "wait 5"} {
		if seen[answer] < 5 {
			t.Errorf("%q: %d times", answer, seen[answer])
		}
	}
}

// P15: the answers to the first lines do not hang on those behind them.
func TestTheFirstLinesOfDrawnSessions(t *testing.T) {
	r := dice(51)
	for range 40 {
		lines := drawnSession(&r, 60)
		text := strings.Join(lines, "")
		whole := impl.Session(text)
		answers := strings.SplitAfter(whole, "\n")
		if len(answers) != len(lines)+1 {
			t.Fatalf("%d answers to %d lines", len(answers)-1, len(lines))
		}
		for n := range len(lines) + 1 {
			first := strings.Join(lines[:n], "")
			want := strings.Join(answers[:n], "")
			asked(t, first, want)
			if n > 0 && lines[n-1] != "\n" {
				asked(t, strings.TrimSuffix(first, "\n"), want)
			}
			// Other lines behind them
			more := impl.Session(first + strings.Join(drawnSession(&r, 5), ""))
			if !strings.HasPrefix(more, want) || strings.Count(more, "\n") != n+5 {
				t.Fatalf("%d lines, and others behind them: %q, not %q", n, more, want)
			}
		}
	}
}

// P15: they do only where the text is too long with these.
func TestTheFirstLinesOfASessionThatIsTooLong(t *testing.T) {
	r := dice(52)
	lines := drawnSession(&r, impl.MaxLines)
	for i := range lines {
		// So short that their number alone is too much
		if len(lines[i]) > 40 {
			lines[i] = "get a\n"
		}
	}
	text := strings.Join(lines, "")
	want := newTalker().answers(text)
	asked(t, text, want)
	asked(t, text+"room\n", "too long\n")
	short := strings.Join(lines[:impl.MaxLines-1], "")
	first := impl.Session(short)
	fits := short + "get " + strings.Repeat("k", impl.MaxSession-len(short)-4)
	asked(t, fits, first+"none\n")
	asked(t, fits+"k", "too long\n")
	asked(t, short, first)
	for n := 0; n < impl.MaxLines; n += 37 {
		asked(t, strings.Join(lines[:n], ""), strings.Join(strings.SplitAfter(want, "\n")[:n], ""))
	}
}

// P15: every text is answered, a line for each line.
func TestTextsOfAnyBytes(t *testing.T) {
	r := dice(53)
	words := []string{"open", "put", "del", "commit", "flush", "compact", "power", "get", "found", "room", "disk", "a", "1", "8", "64", "-", "%", "%00", "%fff", " ", " ", " ", " ", "\n", "\n", "\n"}
	for range 3000 {
		text := ""
		for range r.roll(40) {
			if r.roll(12) == 0 {
				text += string([]byte{byte(r.roll(256))})
			} else {
				text += words[r.roll(len(words))]
			}
		}
		asked(t, text, newTalker().answers(text))
	}
}

// Nothing is kept between two sessions.
func TestSessionsOneBehindTheOther(t *testing.T) {
	first, second := "open\nput a 1\ncommit\nput b 2\n", "room\nput c 3\nget a\nget b\ndisk 8 1\nopen\n"
	for range 3 {
		asked(t, first, "up 0\nwait 1\nup 0\nwait 1\n")
		asked(t, second, "down\nwait 1\nnone\nnone\nok\nup 0\n")
	}
}
