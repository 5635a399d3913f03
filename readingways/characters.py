"""Characters, and the strict reading of UTF-8."""

# By how many bytes a character has: what its first byte has above the bits that count,
# and the least number that has no shorter form.
FIRST_BYTE_MARKS = (0, 0, 0xC0, 0xE0, 0xF0)
LEAST_NUMBERS = (0, 0, 0x80, 0x800, 0x10000)


def is_character(number):
    return 0 <= number < 0x110000 and not 0xD800 <= number <= 0xDFFF


def may_stand_in_word(character):
    return character > 0x20 and character != 0x7F


def length_by_first_byte(first):
    """How many bytes a character has that begins with this one; 0 if none begins so."""
    if first < 0x80:
        return 1
    if 0xC0 <= first < 0xE0:
        return 2
    if 0xE0 <= first < 0xF0:
        return 3
    if 0xF0 <= first < 0xF8:
        return 4
    return 0


def number_of_octets(octets):
    """The number that a first byte and those behind it make; -1 if one of these can't stand behind."""
    number = octets[0] - FIRST_BYTE_MARKS[len(octets)]
    for octet in octets[1:]:
        if not 0x80 <= octet < 0xC0:
            return -1
        number = number * 64 + octet - 0x80
    return number


def character_at(octets, place, length):
    """The character of this length at this place; -1 if what stands there is none, or not in its shortest form."""
    if length == 0 or place + length > len(octets):
        return -1
    number = number_of_octets(octets[place:place + length])
    if number < LEAST_NUMBERS[length] or not is_character(number):
        return -1
    return number


def characters_of(octets):
    """The row of characters that the bytes tell; None if they are no UTF-8."""
    row = []
    place = 0
    while place < len(octets):
        length = length_by_first_byte(octets[place])
        character = character_at(octets, place, length)
        if character == -1:
            return None
        row.append(character)
        place = place + length
    return row
