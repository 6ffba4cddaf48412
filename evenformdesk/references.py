"""What a reference stands for."""

from evenformdesk.signs import Fault, codes, is_digit

NAMED = {"amp": 38, "lt": 60, "gt": 62, "quot": 34, "apos": 39}


# row is what stands between & and ; of a reference.
def referred_bytes(row):
    for word in NAMED:
        if row == codes(word):
            return [NAMED[word]]
    if row[:2] == codes("#x"):
        return utf8(read_character(row[2:], 16))
    if row[:1] == codes("#"):
        return utf8(read_character(row[1:], 10))
    raise Fault()


def read_character(digits, base):
    # Without any digit it stays 0, which is no character.
    number = 0
    for byte in digits:
        number = number * base + digit_value(byte, base)
    if not is_character(number):
        raise Fault()
    return number


def digit_value(byte, base):
    if is_digit(byte):
        return byte - 48
    if base == 16 and 65 <= byte <= 70:
        return byte - 55
    if base == 16 and 97 <= byte <= 102:
        return byte - 87
    raise Fault()


def is_character(number):
    if number < 32:
        return number in (9, 10, 13)
    return number <= 0xD7FF or 0xE000 <= number <= 0xFFFD or 0x10000 <= number <= 0x10FFFF


def utf8(number):
    if number < 0x80:
        return [number]
    if number < 0x800:
        return [0xC0 + (number >> 6), trailing(number)]
    if number < 0x10000:
        return [0xE0 + (number >> 12), trailing(number >> 6), trailing(number)]
    return [0xF0 + (number >> 18), trailing(number >> 12), trailing(number >> 6), trailing(number)]


def trailing(number):
    return 0x80 + (number & 0x3F)
