"""Words: numbers as texts have them."""


def number_in(word, figures):
    """The number that a word writes without needless 0s and signs, in at most so many figures; None if it doesn't."""
    if len(word) > figures or not word.isascii() or not word.isdigit():
        return None
    if word[0] == "0" and word != "0":
        return None
    return int(word)
