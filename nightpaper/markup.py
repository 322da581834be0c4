"""Marked copy and its plain text."""

from nightpaper.errors import NoCopy

GROUP_WORDS = ("up", "low", "quote")
MOST_GROUPS = 8


def shared_signs(copy, at, word):
    """How many signs of a word the copy has, one behind the other, from a place on."""
    many = 0
    while many < len(word) and copy[at + many:at + many + 1] == word[many]:
        many += 1
    return many


def group_word(copy, at):
    """The word of the group whose brace stands at a place; NoCopy where none stands there with its blank."""
    longest = 0
    for word in GROUP_WORDS:
        shared = shared_signs(copy, at + 1, word + " ")
        if shared > len(word):
            return word
        longest = max(longest, shared)
    raise NoCopy(at + 1 + longest)


def group_text(word, text):
    """The plain text of a group, of its word and of the plain text in it."""
    if word == "up":
        return text.upper()
    if word == "low":
        return text.lower()
    return '"' + text + '"'


def plain(copy):
    """The plain text of marked copy; NoCopy of what is not so written."""
    words = []
    # The parts of the copy itself stand first, then those of each group that is open.
    parts = [[]]
    at = 0
    while at < len(copy):
        sign = copy[at]
        if sign == "{":
            if len(words) == MOST_GROUPS:
                raise NoCopy(at)
            words.append(group_word(copy, at))
            parts.append([])
            at += len(words[-1]) + 2
            continue
        if sign == "}":
            if not words:
                raise NoCopy(at)
            sign = group_text(words.pop(), "".join(parts.pop()))
        parts[-1].append(sign)
        at += 1
    if words:
        raise NoCopy(at)
    return "".join(parts[0])
