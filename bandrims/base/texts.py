"""The texts of sums of terms, written and read."""

from bandrims.base.pairs import is_digits, pair_of_text, pair_text
from bandrims.base.terms import tidy_terms


def text_of_terms(terms):
    """The text of a sum of terms."""
    rows = sorted(terms, key=lambda exponents: (sum(exponents), exponents), reverse=True)
    if len(rows) == 0:
        return "0"
    text = "".join([_signed_text(row, terms[row]) for row in rows])
    # The sign of the first term stands without blanks, and only if it is -.
    if text.startswith(" - "):
        return f"-{text[3:]}"
    return text[3:]


def _signed_text(row, pair):
    """The text of a term with its sign between blanks ahead."""
    sign = "-" if pair[0] < 0 else "+"
    words = [_letter_text(place, row[place]) for place in range(len(row)) if row[place] > 0]
    size = pair_text((abs(pair[0]), pair[1]))
    if size != "1" or len(words) == 0:
        words = [size] + words
    joined = " ".join(words)
    return f" {sign} {joined}"


def _letter_text(place, exponent):
    """The text of a power of a letter."""
    if exponent == 1:
        return f"x{place}"
    return f"x{place}^{exponent}"


def terms_of_text(letters, text):
    """The terms in so many letters that have a text, None if no terms have it."""
    sums = {}
    for part in text.replace(" - ", " + -").split(" + "):
        row, pair = _term_of_text(letters, part)
        if row is None:
            return None
        sums[row] = pair
    found = tidy_terms(sums)
    # The reading lets more than the texts that are written: wrong ones do not come again.
    if text_of_terms(found) != text:
        return None
    return found


def _term_of_text(letters, part):
    """The exponents and the number of a term, both None if the text cannot be read."""
    words = part.removeprefix("-").split(" ")
    pair = (1, 1)
    if is_digits(words[0][:1]):
        pair = pair_of_text(words[0])
        words = words[1:]
    row = _row_of_words(letters, words)
    if pair is None or row is None:
        return (None, None)
    if part.startswith("-"):
        pair = (-pair[0], pair[1])
    return (row, pair)


def _row_of_words(letters, words):
    """The exponents of a product of powers of letters, None if a word tells no such power."""
    found = [0] * letters
    for word in words:
        letter, sign, raised = word.partition("^")
        if sign == "":
            raised = "1"
        # No exponent of a formula has more than two digits.
        if not letter.startswith("x") or not is_digits(letter[1:]) or not is_digits(raised):
            return None
        if len(letter) > 2 or len(raised) > 2 or int(letter[1:]) >= letters:
            return None
        found[int(letter[1:])] = int(raised)
    return tuple(found)
