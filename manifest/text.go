package manifest

import (
	"strings"

	"holdall/api"
	"holdall/digest"
	"holdall/octal"
)

// The first words of lines.
const (
	firstLine   = "holdall 1"
	wordName    = "name"
	wordVersion = "version"
	wordNeeds   = "needs"
	wordClashes = "clashes"
	wordFile    = "file"
	wordConf    = "conf"
	wordDir     = "dir"
	wordLink    = "link"
	modeDigits  = 4
)

// sign is that of a comparison; nothing of any version, and of what is none.
func sign(op int) string {
	switch op {
	case api.OpEq:
		return "="
	case api.OpLt:
		return "<"
	case api.OpLe:
		return "<="
	case api.OpGt:
		return ">"
	case api.OpGe:
		return ">="
	}
	return ""
}

func line(words ...string) string { return strings.Join(words, " ") + "\n" }

func ruleLines(word string, l []api.Rule) string {
	s := ""
	for _, r := range l {
		if r.Op == api.OpAny {
			s += line(word, r.Name)
		} else {
			s += line(word, r.Name, sign(r.Op), r.Version)
		}
	}
	return s
}

func entryLine(x api.Entry) string {
	mode, _ := octal.Octal(x.Mode, modeDigits)
	switch x.Kind {
	case api.KindDir:
		return line(wordDir, mode, x.Path)
	case api.KindLink:
		return line(wordLink, x.Path, x.Target)
	case api.KindConf:
		return line(wordConf, mode, digest.Hex(x.Sum), x.Path)
	}
	return line(wordFile, mode, digest.Hex(x.Sum), x.Path)
}

// Print is a manifest's text.
func Print(m api.Manifest) (string, api.Errno) {
	e := Check(m)
	if e != api.OK {
		return "", e
	}
	s := firstLine + "\n" + line(wordName, m.Name) + line(wordVersion, m.Version)
	s += ruleLines(wordNeeds, m.Needs) + ruleLines(wordClashes, m.Clashes)
	for _, x := range m.Entries {
		s += entryLine(x)
	}
	return s, api.OK
}

// What a line may say.
type (
	need  struct{ rule api.Rule }
	clash struct{ rule api.Rule }
	thing struct{ entry api.Entry }
)

// The order in which lines stand, by what they say.
const (
	rankNone = iota
	rankNeed
	rankClash
	rankThing
)

// rank is the place of what a line says in that order.
func rank(said any) int {
	if _, ok := said.(need); ok {
		return rankNeed
	}
	if _, ok := said.(clash); ok {
		return rankClash
	}
	if _, ok := said.(thing); ok {
		return rankThing
	}
	return rankNone
}

func readRule(words []string) (api.Rule, bool) {
	switch len(words) {
	case 1:
		return api.Rule{Name: words[0]}, true
	case 3:
		for op := api.OpEq; op <= api.OpGe; op++ {
			if sign(op) == words[1] {
				return api.Rule{Name: words[0], Op: op, Version: words[2]}, true
			}
		}
	}
	return api.Rule{}, false
}

// readMode is the mode of four octal digits: written again they must be the same.
func readMode(s string) (int, bool) {
	n, e := octal.Get(s)
	again, whole := octal.Octal(n, modeDigits)
	if e != api.OK || !whole || again != s {
		return 0, false
	}
	return n, true
}

func readThing(words []string) (api.Entry, bool) {
	if words[0] == wordLink {
		if len(words) != 3 {
			return api.Entry{}, false
		}
		return api.Entry{Kind: api.KindLink, Path: words[1], Target: words[2]}, true
	}
	if words[0] == wordDir {
		if len(words) != 3 {
			return api.Entry{}, false
		}
		mode, ok := readMode(words[1])
		return api.Entry{Kind: api.KindDir, Mode: mode, Path: words[2]}, ok
	}
	if len(words) != 4 {
		return api.Entry{}, false
	}
	mode, modeRight := readMode(words[1])
	sum, sumRight := digest.Unhex(words[2])
	kind := api.KindFile
	if words[0] == wordConf {
		kind = api.KindConf
	}
	return api.Entry{Kind: kind, Mode: mode, Sum: sum, Path: words[3]}, modeRight && sumRight
}

// read is what a line says: nothing, if it says nothing that may stand behind the version.
func read(s string) any {
	words := strings.Split(s, " ")
	switch words[0] {
	case wordNeeds, wordClashes:
		r, ok := readRule(words[1:])
		if !ok {
			return nil
		}
		if words[0] == wordNeeds {
			return need{r}
		}
		return clash{r}
	case wordFile, wordConf, wordDir, wordLink:
		x, ok := readThing(words)
		if ok {
			return thing{x}
		}
	}
	return nil
}

// head is the word behind the first one, of a line of two words.
func head(s, word string) (string, bool) {
	words := strings.Split(s, " ")
	if len(words) != 2 || words[0] != word {
		return "", false
	}
	return words[1], true
}

// readAll is the manifest that lines say, whether it may be or not.
func readAll(lines []string) (api.Manifest, bool) {
	if len(lines) < 3 || lines[0] != firstLine {
		return api.Manifest{}, false
	}
	name, nameRight := head(lines[1], wordName)
	version, versionRight := head(lines[2], wordVersion)
	if !nameRight || !versionRight {
		return api.Manifest{}, false
	}
	m := api.Manifest{Name: name, Version: version}
	last := rankNeed
	for _, s := range lines[3:] {
		said := read(s)
		now := rank(said)
		if now < last {
			return api.Manifest{}, false
		}
		last = now
		switch now {
		case rankNeed:
			m.Needs = append(m.Needs, said.(need).rule)
		case rankClash:
			m.Clashes = append(m.Clashes, said.(clash).rule)
		case rankThing:
			m.Entries = append(m.Entries, said.(thing).entry)
		}
	}
	return m, true
}

// Parse is the manifest whose text s is.
func Parse(s string) (api.Manifest, api.Errno) {
	if len(s) > api.MaxBytes {
		return api.Manifest{}, api.ErrLong
	}
	body, ended := strings.CutSuffix(s, "\n")
	if !ended {
		return api.Manifest{}, api.ErrForm
	}
	m, ok := readAll(strings.Split(body, "\n"))
	if !ok {
		return api.Manifest{}, api.ErrForm
	}
	e := Check(m)
	if e != api.OK {
		return api.Manifest{}, e
	}
	return m, api.OK
}
