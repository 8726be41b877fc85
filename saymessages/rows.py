"""Texts as rows of bytes."""

BLANK = 32
LINE_FEED = 10


def bytes_of(text):
    return tuple([ord(sign) for sign in text])


def is_of(row, signs):
    allowed = bytes_of(signs)
    return all([byte in allowed for byte in row])


def joined_by_blanks(rows):
    joined = []
    for place, row in enumerate(rows):
        if place > 0:
            joined.append(BLANK)
        joined.extend(row)
    return joined


def split_at_blanks(row):
    fields = [[]]
    for byte in row:
        if byte == BLANK:
            fields.append([])
        else:
            fields[-1].append(byte)
    return [tuple(field) for field in fields]
