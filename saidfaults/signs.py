"""Bytes into texts and back."""

SMALL = "abcdefghijklmnopqrstuvwxyz"
GREAT = "ABCDEFGHIJKLMNOPQRSTUVWXYZ"
DIGITS = "0123456789"
OTHERS = {10: "\n", 32: " ", 34: '"', 58: ":"}

# No form has this sign, so it may stand for every byte that no form has.
STRANGE = "?"


def sign_of(byte):
    if 97 <= byte <= 122:
        return SMALL[byte - 97]
    if 65 <= byte <= 90:
        return GREAT[byte - 65]
    if 48 <= byte <= 57:
        return DIGITS[byte - 48]
    return OTHERS.get(byte, STRANGE)


def text_of(row):
    return "".join([sign_of(byte) for byte in row])


def counted(text):
    return [len(text)] + [ord(sign) for sign in text]
