"""What the lists that calls are handed may hold."""

LONGEST_NOTE_TEXT = 200
LONGEST_NAME = 20


def is_letter(number):
    return 32 <= number <= 126


def is_sign(number):
    return number == 10 or is_letter(number)


def are_signs(numbers):
    return len(numbers) > 0 and all([is_sign(number) for number in numbers])


def is_note_text(numbers):
    return 1 <= len(numbers) <= LONGEST_NOTE_TEXT and all([is_letter(number) for number in numbers])


def is_small_letter(number):
    return 97 <= number <= 122


def is_name(numbers):
    return 1 <= len(numbers) <= LONGEST_NAME and all([is_small_letter(number) for number in numbers])
