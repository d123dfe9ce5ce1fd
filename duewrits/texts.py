"""The texts of rules: from words to expressions and back."""

from duewrits.errors import BadText, NotAllowed
from duewrits.forms import is_name, is_number

MOST_WORDS = 40
MOST_PERCENT = 1000

# What follows each first word, part by part. Numbers and facts are read apart.
AMOUNTS = {
    "due": ("name",),
    "plus": ("amount", "amount"),
    "minus": ("amount", "amount"),
    "times": ("amount", "amount"),
    "least": ("amount", "amount"),
    "most": ("amount", "amount"),
    "percent": ("hundredths", "amount"),
    "if": ("condition", "amount", "amount"),
}
CONDITIONS = {
    "below": ("amount", "amount"),
    "same": ("amount", "amount"),
    "known": ("name",),
    "not": ("condition",),
    "both": ("condition", "condition"),
    "either": ("condition", "condition"),
}


def parse_amount(text):
    """Return the expression that this text writes."""
    words = split_words(text)
    if len(words) > MOST_WORDS:
        raise NotAllowed("a text has at most 40 words")
    amount, at = read_amount(words, 0)
    if at < len(words):
        raise BadText(at)
    return amount


def format_amount(amount):
    """Return the text of an expression, with one space between words."""
    return " ".join(words_of(amount))


def split_words(text):
    """Return the words between the spaces of a text."""
    return [word for word in text.split(" ") if word != ""]


# Each reader takes the words and the index at which to begin, and returns what
# it read and the index of the word behind it.

def read_amount(words, at):
    """Read an expression."""
    word = word_at(words, at)
    if is_number(word):
        return ("number", int(word)), at + 1
    if word == "fact":
        return read_fact(words, at)
    if word not in AMOUNTS:
        raise BadText(at)
    return read_parts(words, at, AMOUNTS[word])


def read_condition(words, at):
    """Read a condition."""
    word = word_at(words, at)
    if word not in CONDITIONS:
        raise BadText(at)
    return read_parts(words, at, CONDITIONS[word])


def read_fact(words, at):
    """Read `fact NAME`, and the `or` that belongs to it."""
    name, after = read_name(words, at + 1)
    if after == len(words) or words[after] != "or":
        return ("fact", name, None), after
    other, after = read_amount(words, after + 1)
    return ("fact", name, other), after


def read_parts(words, at, kinds):
    """Read a first word and, behind it, parts of these kinds."""
    parts = [words[at]]
    after = at + 1
    for kind in kinds:
        part, after = read_part(words, after, kind)
        parts.append(part)
    return tuple(parts), after


def read_part(words, at, kind):
    """Read a part of this kind."""
    if kind == "amount":
        return read_amount(words, at)
    if kind == "condition":
        return read_condition(words, at)
    if kind == "hundredths":
        return read_hundredths(words, at)
    return read_name(words, at)


def read_hundredths(words, at):
    """Read the number of `percent`."""
    word = word_at(words, at)
    if not is_number(word) or not 0 <= int(word) <= MOST_PERCENT:
        raise BadText(at)
    return int(word), at + 1


def read_name(words, at):
    """Read a name."""
    word = word_at(words, at)
    if not is_name(word):
        raise BadText(at)
    return word, at + 1


def word_at(words, at):
    """Return the word of this index; behind the last one, something is missing."""
    if at == len(words):
        raise BadText(at)
    return words[at]


def words_of(tree):
    """Return the words of an expression or a condition."""
    if tree[0] == "number":
        return [str(tree[1])]
    if tree[0] == "fact":
        return fact_words(tree)
    words = [tree[0]]
    for part in tree[1:]:
        if isinstance(part, tuple):
            words.extend(words_of(part))
        else:
            words.append(str(part))
    return words


def fact_words(tree):
    """Return the words of a fact, with those of what stands behind its `or`."""
    name, other = tree[1:]
    words = ["fact", name]
    if other is not None:
        words.append("or")
        words.extend(words_of(other))
    return words
