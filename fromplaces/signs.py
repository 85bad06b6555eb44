"""Numbers, COUNTS and polynomials as words, and back."""

from fromplaces.ratios import Ratio

DIGITS = "0123456789"


def count_from(word):
    """The COUNT of these decimal digits, None if they are none, or have a needless zero."""
    if word == "" or (len(word) > 1 and word[0] == "0") or not all([sign in DIGITS for sign in word]):
        return None
    return int(word)


def number_from(word):
    """The NUMBER that is written so, a Ratio; None if none is."""
    top, stroke, bottom = word.partition("/")
    size = count_from(top[1:] if top.startswith("-") else top)
    below = count_from(bottom) if stroke else 1
    if size is None or below is None or (stroke and below < 2) or top == "-0":
        return None
    found = Ratio(int(top), below)
    return found if found.bottom == below else None


def numbers_from(words):
    """The list of the NUMBERS that are written so, None unless each word is one."""
    found = [number_from(word) for word in words]
    return None if any([number is None for number in found]) else found


def poly_sign(poly):
    """A told polynomial as one word: its numbers with commas between, `-` for nought."""
    return ",".join([str(number) for number in poly]) if poly else "-"


def polys_sign(polys):
    """Told polynomials, `; ` between them; `-` for none."""
    return "; ".join([poly_sign(poly) for poly in polys]) if polys else "-"


def counts_sign(counts):
    """COUNTS, blanks between them; `-` for none."""
    return " ".join([str(count) for count in counts]) if counts else "-"


def yes_sign(is_so):
    """`yes` or `no`."""
    return "yes" if is_so else "no"
