"""The sizes of drawn texts and the pixels that their characters cover."""

TEXT_HEIGHT = 7

# Characters that are not listed have this width.
OTHER_WIDTH = 5

GLYPH_WIDTHS = {
    "!": 1, "'": 1, ".": 1, ":": 1, "i": 1, "|": 1,
    "(": 2, ")": 2, ",": 2, ";": 2, "[": 2, "]": 2, "j": 2, "l": 2, "`": 2,
    " ": 3, "\"": 3, "*": 3, "-": 3, "/": 3, "1": 3, "<": 3, ">": 3, "I": 3,
    "\\": 3, "^": 3, "f": 3, "r": 3, "t": 3, "{": 3, "}": 3,
    "$": 4, "0": 4, "2": 4, "3": 4, "4": 4, "5": 4, "6": 4, "7": 4, "8": 4, "9": 4,
    "=": 4, "?": 4, "J": 4, "_": 4, "a": 4, "b": 4, "c": 4, "d": 4, "e": 4, "g": 4,
    "h": 4, "k": 4, "n": 4, "o": 4, "p": 4, "q": 4, "s": 4, "u": 4, "v": 4, "x": 4,
    "y": 4, "z": 4,
}


def glyph_width(character):
    """The width of one character in pixels."""
    return GLYPH_WIDTHS.get(character, OTHER_WIDTH)


def text_width(text):
    """The width of a text in pixels, with one pixel between two characters."""
    if text == "":
        return 0
    return sum([glyph_width(character) for character in text]) + len(text) - 1


def inked(text, x, y):
    """True if a character of a text with its upper left corner at (0, 0) covers the pixel (x, y), otherwise False."""
    if not 0 <= y < TEXT_HEIGHT:
        return False
    left = 0
    for character in text:
        after = left + glyph_width(character)
        if x < after:
            return left <= x and character != " "
        left = after + 1
    return False
