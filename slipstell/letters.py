"""Letters: the numbers 21H to 7EH, and rows of them."""

FIRST_LETTER = 0x21
LAST_LETTER = 0x7E


def are_letters(row):
    """Whether each number of a row is a letter; of an empty row, too."""
    for number in row:
        if number < FIRST_LETTER or number > LAST_LETTER:
            return False
    return True
