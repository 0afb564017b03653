"""Which numbers are letters, which are characters."""

LEAST_LETTER = 0x21
GREATEST_LETTER = 0x7E
CHARACTERS_END = 0x110000
SURROGATES_BEGIN = 0xD800
SURROGATES_END = 0xE000


def is_letter(number):
    """Tell whether the number is a letter: what a key gives."""
    return LEAST_LETTER <= number <= GREATEST_LETTER


def is_character(number):
    """Tell whether the number is a character, and so may be a sound."""
    return 0 <= number < CHARACTERS_END and not SURROGATES_BEGIN <= number < SURROGATES_END


def all_letters(row):
    """Tell whether all of the row are letters."""
    return all([is_letter(number) for number in row])


def all_characters(row):
    """Tell whether all of the row are characters."""
    return all([is_character(number) for number in row])
