"""The author, the time and the tracking of the moment (promises 1 to 3)."""


def set_author(sheet, a):
    if not 1 <= a <= 99:
        return [-2]
    sheet.author = a
    return [0]


def set_clock(sheet, t):
    if t < 0:
        return [-2]
    if t < sheet.time:
        return [-3]
    sheet.time = t
    return [0]


def set_tracking(sheet, on):
    if on != 0 and on != 1:
        return [-2]
    sheet.tracking = on == 1
    return [0]
