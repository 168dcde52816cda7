"""Letters, rows of letters, and the number of marks over names."""

ALL_LETTERS = "ABCDEFGHIJKLMNOPQRSTUVWXYZabcdefghijklmnopqrstuvwxyz"


def is_letter(sign):
    return len(sign) == 1 and sign in ALL_LETTERS


def is_small(letter):
    return "a" <= letter <= "z"


def in_order(letters):
    return "".join(sorted(set(letters)))


def is_row(text):
    return all([is_letter(sign) for sign in text]) and in_order(text) == text


def two_to(exponent):
    power = 1
    for each in range(exponent):
        power = power * 2
    return power


def letter_of(names, marks):
    number = 0
    for name in names:
        number = number * 2
        if name in marks:
            number = number + 1
    return number


def marks_of(names, number):
    marks = ""
    rest = number
    for name in reversed(names):
        if rest & 1 == 1:
            marks = name + marks
        rest = rest >> 1
    return marks
