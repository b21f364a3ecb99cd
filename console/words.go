package console

import (
	"strconv"

	"watchword/api"
	"watchword/name"
	"watchword/shape"
)

// realmWord is a word that is a realm.
type realmWord string

// partyWord is a word that is the name of a client or a service.
type partyWord string

// byteWord is a word that is a number up to 255.
type byteWord byte

// versionWord is a word that is the version of a key.
type versionWord int

// attributeWord is a word that is an attribute.
type attributeWord api.Attributes

// number returns the number that a word is.
func number(word string, low, high int) int {
	v, err := strconv.Atoi(word)
	require(err == nil && strconv.Itoa(v) == word && v >= low && v <= high, api.ErrArg)
	return v
}

// party reports whether a word is the name of a client or a service.
func party(word string) bool {
	for _, c := range []byte(word) {
		if !(c >= 'a' && c <= 'z' || c >= '0' && c <= '9' || c == '-') {
			return false
		}
	}
	return len(word) >= 1 && len(word) <= MaxName
}

// attribute returns the attribute that a word is.
func attribute(word string) api.Attributes {
	a, ok := map[string]api.Attributes{
		"disabled": api.AttrDisabled, "preauth": api.AttrPreAuth, "noforward": api.AttrNoForward, "noproxy": api.AttrNoProxy,
		"norenew": api.AttrNoRenew, "nopostdate": api.AttrNoPostdate, "noservice": api.AttrNoService,
		"delegate": api.AttrDelegate, "foruser": api.AttrForUser, "mustchange": api.AttrMustChange,
	}[word]
	require(ok, api.ErrArg)
	return a
}

// read reads the words of a command into variables, whose types say what the words are.
func (j *job) read(variables ...any) {
	require(len(j.args) == len(variables), api.ErrArg)
	for i, variable := range variables {
		word := j.args[i]
		switch v := variable.(type) {
		case *string:
			*v = word
		case *int:
			*v = number(word, 0, api.MaxTime)
		case *byteWord:
			*v = byteWord(number(word, 0, 255))
		case *versionWord:
			*v = versionWord(number(word, 1, 65535))
		case *attributeWord:
			*v = attributeWord(attribute(word))
		case *realmWord:
			require(name.Realm(word), api.ErrArg)
			*v = realmWord(word)
		case *partyWord:
			require(party(word), api.ErrArg)
			*v = partyWord(word)
		case *api.Principal:
			p, e := name.Parse(word)
			require(e == api.OK, api.ErrArg)
			*v = p
		}
	}
}

// principal returns the string of a principal.
func principal(p api.Principal) string {
	if shape.NoName(p) {
		return "-"
	}
	return need(name.Text(p))
}
