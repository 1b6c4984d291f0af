"""Lines of words and numbers that are separated by single spaces."""

# Numbers with so many digits are out of every range, and int() refuses those with thousands.
MOST_DIGITS = 20


def is_number(word):
    """Return whether a word is a number: the digits 0 to 9 alone, and no leading zero."""
    return word.isascii() and word.isdigit() and (word == "0" or not word.startswith("0"))


def number_of(word):
    """Return the number of a word, cut to its first MOST_DIGITS digits: what is out of range stays so."""
    return int(word[:MOST_DIGITS])


def read_numbers(line, form):
    """Return the list of the numbers of a line, or None if the line does not have the form.

    A form is a line in which the word N stands for each number.
    """
    words = line.split(" ")
    parts = form.split(" ")
    if len(words) != len(parts):
        return None
    numbers = []
    for word, part in zip(words, parts):
        if part == "N" and is_number(word):
            numbers.append(number_of(word))
        elif part == "N" or word != part:
            return None
    return numbers
