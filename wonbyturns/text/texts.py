"""Texts of values: each form of value has its own."""

from wonbyturns.base.pairs import pair_read, text_of
from wonbyturns.base.words import is_fraction, is_integer, is_word
from wonbyturns.errors import InvalidOperation, InvalidWord, ParseError

NOTHING = "-"


def write(form, value):
    """The text of a value."""
    _check_form(form)
    texts = _texts_of(form, value)
    if texts is None or not all([text is not None for text in texts]):
        raise InvalidOperation("the value has not this form")
    return BETWEEN[form].join(texts)


def read(form, text):
    """The value of a text."""
    _check_form(form)
    items = _items_in(form, text)
    wrong = None if items is None else _first_wrong(form, items)
    if items is None or wrong is not None:
        raise ParseError(wrong)
    if form == "lot":
        return dict(items)
    return items[0] if form == "fraction" else tuple(items)


def is_written(form, value):
    """Whether the value is a text of the form."""
    _check_form(form)
    items = _items_in(form, value)
    return items is not None and _first_wrong(form, items) is None


def _word_text(value):
    """The text of a word, or None if the value is none."""
    return value if is_word(value) else None


def _fraction_text(value):
    """The text of a fraction, or None if the value is none."""
    return text_of(value) if is_fraction(value) else None


def _integer_text(value):
    """The text of an integer, or None if the value is none."""
    return str(value) if is_integer(value) else None


def _vector_text(value):
    """The text of a tuple of at least one fraction, or None if the value is none."""
    if not isinstance(value, tuple) or not value or not all([is_fraction(one) for one in value]):
        return None
    return " ".join([text_of(one) for one in value])


def _share_text(value):
    """The text of a pair of a word and a value, or None if that is no fraction."""
    word, share = value
    return f"{word}:{text_of(share)}" if is_fraction(share) else None


def _state_text(value):
    """The text of a pair of a word and a dict from integers to integers of at least 0, or None if it is none."""
    if not isinstance(value, tuple) or len(value) != 2:
        return None
    word, rule = value
    if not is_word(word) or not isinstance(rule, dict) or not rule:
        return None
    if not all([is_integer(gain) and is_integer(rule[gain]) and rule[gain] >= 0 for gain in rule]):
        return None
    return " ".join([word] + [f"{gain}>{rule[gain]}" for gain in sorted(rule)])


def _fraction_read(text):
    """The fraction with this text, or None."""
    return pair_read(text)


def _integer_read(text):
    """The integer with this text, or None."""
    pair = pair_read(text)
    return pair[0] if pair is not None and pair[1] == 1 else None


def _vector_read(text):
    """The tuple of fractions with this text, or None."""
    found = [pair_read(part) for part in text.split(" ")]
    return tuple(found) if all([one is not None for one in found]) else None


def _share_read(text):
    """The pair of a word and a fraction with this text, or None."""
    word, _, rest = text.partition(":")
    share = pair_read(rest)
    return (word, share) if is_word(word) and share is not None else None


def _state_read(text):
    """The pair of a word and a dict of integers with this text, or None."""
    word, *parts = text.split(" ")
    found = [_step_read(part) for part in parts]
    if not is_word(word) or not found or not all([step is not None for step in found]):
        return None
    gains = [gain for gain, _ in found]
    if not all([gain < behind for gain, behind in zip(gains, gains[1:])]):
        return None
    return word, dict(found)


def _step_read(text):
    """The pair of an integer and an integer of at least 0 with this text, or None."""
    before, _, rest = text.partition(">")
    gain, to = _integer_read(before), _integer_read(rest)
    return (gain, to) if gain is not None and to is not None and to >= 0 else None


# What stands between the items of each form; a fraction is one item.
BETWEEN = {
    "fraction": " ",
    "row": " ",
    "vector": " ",
    "vectors": "; ",
    "lot": " ",
    "polynomial": " ",
    "controller": "; ",
}

# How an item is written, and how it is read.
WRITERS = {
    "fraction": _fraction_text,
    "row": _word_text,
    "vector": _fraction_text,
    "vectors": _vector_text,
    "lot": _share_text,
    "polynomial": _integer_text,
    "controller": _state_text,
}
READERS = {
    "fraction": _fraction_read,
    "row": _word_text,
    "vector": _fraction_read,
    "vectors": _vector_read,
    "lot": _share_read,
    "polynomial": _integer_read,
    "controller": _state_read,
}


def _check_form(value):
    """Raise an error unless the value is the name of a form."""
    if not isinstance(value, str) or value not in BETWEEN:
        raise InvalidWord("there is no such form")


def _texts_of(form, value):
    """The texts of the items of a value, None for what is no item; or None if the value has no such items."""
    writer = WRITERS[form]
    if form == "fraction":
        return [writer(value)]
    if form == "lot":
        if not isinstance(value, dict) or not value or not all([is_word(word) for word in value]):
            return None
        return [writer((word, value[word])) for word in sorted(value)]
    if not isinstance(value, tuple):
        return None
    if form == "polynomial":
        if not value:
            return [NOTHING]
        return [writer(item) for item in value] if value[-1] != 0 else None
    return [writer(item) for item in value] if value else None


def _items_in(form, text):
    """The items of a text, None for what is no item; or None if there is no text."""
    if not isinstance(text, str):
        return None
    if form == "polynomial" and text == NOTHING:
        return []
    reader = READERS[form]
    return [reader(part) for part in ([text] if form == "fraction" else text.split(BETWEEN[form]))]


def _first_wrong(form, items):
    """The index of the first item that is none, or that does not stand where it may, or None."""
    for index, item in enumerate(items):
        if item is None:
            return index
        if form == "lot" and index > 0 and item[0] <= items[index - 1][0]:
            return index
        if form == "polynomial" and index == len(items) - 1 and item == 0:
            return index
    return None
