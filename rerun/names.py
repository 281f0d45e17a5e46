"""What is a name."""

from rerun.signs import MOST_NAME

UNDERSCORE = 95


def is_letter(byte):
    return 97 <= byte <= 122


def is_digit(byte):
    return 48 <= byte <= 57


def is_name(text):
    if len(text) < 1 or len(text) > MOST_NAME:
        return False
    if not is_letter(text[0]):
        return False
    for byte in text:
        if not is_letter(byte) and not is_digit(byte) and byte != UNDERSCORE:
            return False
    return True


def are_names(texts):
    for text in texts:
        if not is_name(text):
            return False
    return True
