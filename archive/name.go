package archive

import (
	"slices"
	"strings"

	"pouch/limit"
)

const nameSigns = "abcdefghijklmnopqrstuvwxyz0123456789_"

// checkName answers a *NameError, if a member behind the earlier ones can't have the name.
func checkName(name string, earlier []part) error {
	if !isName(name) {
		return &NameError{Rule: errNoName}
	}
	if slices.ContainsFunc(earlier, func(p part) bool { return p.name == name }) {
		return &NameError{Rule: errTwice}
	}
	return nil
}

func isName(name string) bool {
	if len(name) < 1 || len(name) > limit.Name {
		return false
	}
	return strings.TrimLeft(name, nameSigns) == ""
}
