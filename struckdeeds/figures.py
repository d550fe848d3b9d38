"""Whole numbers written in figures, as the texts of worlds and deeds have them."""

FIGURES = "0123456789"
GROUP_LENGTH = 18
GROUP = 10 ** 18


def show_whole(number):
    """The number in figures, with - ahead where it is below 0."""
    if number < 0:
        return "-" + show_whole(-number)
    groups = []
    # By groups, since Python's own writing refuses numbers of very many figures.
    while number >= GROUP:
        number, low = divmod(number, GROUP)
        groups.append(str(low).zfill(GROUP_LENGTH))
    groups.append(str(number))
    return "".join(reversed(groups))


def read_whole(text):
    """The number that is written so, or None where the text is none."""
    below = text.startswith("-")
    figures = text[1:] if below else text
    if not is_row_of_figures(figures) or (figures[0] == "0" and text != "0"):
        return None
    number = 0
    # Figure by figure, since Python's own reading refuses very long texts.
    for figure in figures:
        number = number * 10 + FIGURES.index(figure)
    return -number if below else number


def is_row_of_figures(text):
    """Whether the text is of one or more figures and of nothing else."""
    return len(text) > 0 and all([sign in FIGURES for sign in text])
