"""The signs that links are written with, and the classes that they fall in."""

HASH = 35
PERCENT = 37
AMPERSAND = 38
DOT = 46
SLASH = 47
COLON = 58
EQUALS = 61
QUESTION = 63
LAST_BYTE = 255
FIRST_MARK = 256
LAST_SIGN = 65535

# The signs / ? # in this order.
PATH_ENDS = (47, 63, 35)
HTTPS = (104, 116, 116, 112, 115)
# The digits 0 to 9, then A to F: percent forms are written with great letters.
HEX_DIGITS = (48, 49, 50, 51, 52, 53, 54, 55, 56, 57, 65, 66, 67, 68, 69, 70)


def all_up_to(last, numbers):
    """Whether all numbers are from 0 to the last one."""
    return all([0 <= number <= last for number in numbers])


def is_mark(sign):
    return sign >= FIRST_MARK


def is_digit(sign):
    return 48 <= sign <= 57


def is_small_letter(sign):
    return 97 <= sign <= 122


def is_great_letter(sign):
    return 65 <= sign <= 90


def is_plain(sign):
    if is_small_letter(sign) or is_great_letter(sign) or is_digit(sign):
        return True
    return sign in (45, 95, 126)


def is_text_sign(sign):
    """Whether the sign may stand in a content as it is."""
    return is_plain(sign) or sign == DOT or is_mark(sign)


def is_label_sign(sign):
    return is_small_letter(sign) or is_digit(sign) or sign == 45


def is_hex_digit(sign):
    return is_digit(sign) or 97 <= sign <= 102 or 65 <= sign <= 70


def hex_worth(sign):
    """The worth of a hexadecimal digit, in small or great letters."""
    if is_digit(sign):
        return sign - 48
    if is_small_letter(sign):
        return sign - 97 + 10
    return sign - 65 + 10


def percent_form(byte):
    return [PERCENT, HEX_DIGITS[byte // 16], HEX_DIGITS[byte % 16]]
