"""Texts set to rows."""


def words_of(text):
    """The words of a text without line feeds: what its blanks part."""
    return [word for word in text.split(" ") if word]


def cut_word(word, wide):
    """A word that is longer than the width, parted to words that are not; any other alone."""
    # A width below two has no room for a sign and its "-": cut to nothing, a word would never end.
    kept = max(wide, 2) - 1
    parts = []
    while len(word) > kept + 1:
        parts.append(word[:kept] + "-")
        word = word[kept:]
    parts.append(word)
    return parts


def filled_rows(words, wide):
    """The words of each row, where each row takes as many as it has room for."""
    rows = []
    used = 0
    for word in words:
        if rows and used + 1 + len(word) <= wide:
            rows[-1].append(word)
            used += 1 + len(word)
        else:
            rows.append([word])
            used = len(word)
    return rows


def spread_row(words, wide):
    """A row of words with all the blanks that it lacks to the width between them."""
    if len(words) == 1:
        return words[0]
    blanks = wide - sum([len(word) for word in words])
    each, more = divmod(blanks, len(words) - 1)
    row = words[0]
    for place, word in enumerate(words[1:]):
        row += " " * (each + 1 if place < more else each) + word
    return row


def set_paragraph(words, wide, full):
    """The rows of one paragraph's words."""
    cut = [part for word in words for part in cut_word(word, wide)]
    lines = filled_rows(cut, wide)
    rows = []
    for number, line in enumerate(lines):
        if full and number < len(lines) - 1:
            rows.append(spread_row(line, wide).ljust(wide))
        else:
            rows.append(" ".join(line).ljust(wide))
    return rows


def set_rows(text, wide, full=True, gap=0):
    """The rows of a text, each as long as the width."""
    rows = []
    for paragraph in text.split("\n"):
        words = words_of(paragraph)
        if not words:
            continue
        if rows:
            rows.extend([" " * wide] * gap)
        rows.extend(set_paragraph(words, wide, full))
    return rows
