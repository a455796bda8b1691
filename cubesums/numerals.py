"""Whole numbers as texts write them."""

DIGITS = "0123456789"


def is_numeral(text):
    """Tell whether a string is decimal digits without unnecessary leading zeros."""
    if text == "" or not all([sign in DIGITS for sign in text]):
        return False
    return text == "0" or text[0] != "0"


def is_signed_numeral(text):
    """Tell whether a string is a numeral, with a minus sign ahead if it is negative."""
    if text.startswith("-"):
        return text != "-0" and is_numeral(text[1:])
    return is_numeral(text)
