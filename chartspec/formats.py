"""The labels of fractions in formats (before, after, grouped)."""

from chartspec.fractions import fraction_text, read_fraction


def number_label(fraction, style):
    """The label of the fraction in the format `style`."""
    before, after, grouped = style
    text = fraction_text(fraction)
    return f"{before}{grouped_text(text) if grouped else text}{after}"


def read_label(text, style):
    """The fraction as which the text is read in the format `style`, or None."""
    before, after, _ = style
    inner = text[len(before):len(text) - len(after)]
    found = read_fraction(inner.replace(",", ""))
    # Many texts lose their commas and what stands around them, but only one of them is the label.
    if found is None or number_label(found, style) != text:
        return None
    return found


def grouped_text(text):
    """The text of a fraction, with commas in its integer part if it is a decimal number."""
    if "/" in text:
        return text
    sign = "-" if text.startswith("-") else ""
    whole, point, digits = text[len(sign):].partition(".")
    return f"{sign}{int(whole):,}{point}{digits}"
