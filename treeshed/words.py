"""Letters, words and values: what they are and how they are ordered."""

ALPHABET = "abcdefghijklmnopqrstuvwxyz"
FEWEST_LETTERS = 2
LONGEST_WORD = 200
GREATEST_VALUE = 9
LONGEST_NAME = 20


def is_integer(value):
    """Whether any value is an integer; a bool is none."""
    return isinstance(value, int) and not isinstance(value, bool)


def is_letters(value):
    """Whether any value is a string of 2 to 26 different small letters."""
    if not isinstance(value, str) or not FEWEST_LETTERS <= len(value) <= len(ALPHABET):
        return False
    return all([letter in ALPHABET for letter in value]) and len(set(value)) == len(value)


def is_word(value, letters):
    """Whether any value is a word over these letters."""
    if not isinstance(value, str) or len(value) > LONGEST_WORD:
        return False
    return all([letter in letters for letter in value])


def is_value(value):
    """Whether any value is one that a place may keep."""
    return is_integer(value) and 1 <= value <= GREATEST_VALUE


def is_name(value):
    """Whether any value is a name of 1 to 20 small letters."""
    if not isinstance(value, str) or not 1 <= len(value) <= LONGEST_NAME:
        return False
    return all([letter in ALPHABET for letter in value])


def sort_key(word, letters):
    """A string that Python orders as the order of letters orders the word."""
    return "".join([ALPHABET[letters.index(letter)] for letter in word])


def in_order(words, letters):
    """A list of the words, ordered letter by letter."""
    return sorted(words, key=lambda word: sort_key(word, letters))


def shared_length(word, other):
    """How many letters two words have in common from their beginnings on."""
    for number, (letter, beside) in enumerate(zip(word, other)):
        if letter != beside:
            return number
    return min(len(word), len(other))
