"""Colors, palettes and the colors of cells."""

BLACK = "#000000"
WHITE = "#ffffff"
GRAY = "#888888"
LIGHT_GRAY = "#dddddd"

HEX_DIGITS = "0123456789abcdef"

PALETTES = {
    "plain": ("#3a6ea8", "#e5832f", "#c84b55", "#5fb0a4", "#4c9c3f", "#e6c23d", "#9d6bb0", "#f58fa3"),
    "safe": ("#1166aa", "#dd9911", "#119966", "#cc5511", "#66bbee", "#bb6699", "#eedd33", "#222222"),
    "dark": ("#227755", "#bb5511", "#6655aa", "#cc2277", "#559922", "#cc9911", "#885522", "#555555"),
}


def brightness(color):
    """The brightness of a color, an integer."""
    red, green, blue = [color_part(color, at) for at in (1, 3, 5)]
    return 299 * red + 587 * green + 114 * blue


def color_part(color, at):
    """The number of two digits of a color."""
    return 16 * HEX_DIGITS.index(color[at]) + HEX_DIGITS.index(color[at + 1])


def text_color(color):
    """The color of a text on a color: black or white."""
    return BLACK if contrast(BLACK, color) >= contrast(WHITE, color) else WHITE


def contrast(first, second):
    """The contrast of two colors."""
    return abs(brightness(first) - brightness(second))


def palette_colors(palette):
    """The eight colors of a palette, a tuple."""
    return PALETTES[palette]


def color_of(palette, categories, cell):
    """The color of a cell on a color scale with these categories, or None."""
    colors = palette_colors(palette)
    shown = categories[:len(colors)]
    return colors[shown.index(cell)] if cell in shown else None
