"""Names, as the numbers of their letters."""

from chancerydays.rules import first_of

BLANK = 32
LONGEST_NAME = 31
CAPITAL_A = 65
CAPITAL_Z = 90
SMALL_A = 97
SMALL_Z = 122


def split_names(letters):
    """The names between the blanks, as tuples; two blanks together have an empty one between them."""
    if len(letters) == 0:
        return []
    names = []
    begun = 0
    for place, letter in enumerate(letters):
        if letter == BLANK:
            names.append(tuple(letters[begun:place]))
            begun = place + 1
    names.append(tuple(letters[begun:]))
    return names


def number_of(names, name):
    """Which of the names it is, None if none."""
    return first_of([k for k, known in enumerate(names) if known == name])


def is_length_of_name(name):
    return 1 <= len(name) <= LONGEST_NAME


def are_small(letters):
    return all([SMALL_A <= letter <= SMALL_Z for letter in letters])


def is_small_name(name):
    """An office's name."""
    return is_length_of_name(name) and are_small(name)


def is_capital_name(name):
    """A person's or a place's name."""
    return is_length_of_name(name) and CAPITAL_A <= name[0] <= CAPITAL_Z and are_small(name[1:])
