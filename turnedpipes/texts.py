"""Boards as texts: lists of bytes, a digit for each piece and a byte 10 behind each line."""

LINE_END = 10
DIGITS = "0123456789abcdef"


def text_lines(text):
    lines = []
    line = []
    for byte in text:
        if byte == LINE_END:
            lines.append(line)
            line = []
        else:
            line.append(byte)
    # Behind the last byte 10 there is a line only if something stands there.
    if len(line) > 0:
        lines.append(line)
    return lines


def read_board(text, width, height):
    # The pieces cell by cell, or None if the text is no board of this size.
    lines = text_lines(text)
    if len(lines) != height:
        return None
    digits = [ord(digit) for digit in DIGITS]
    pieces = []
    for line in lines:
        if len(line) != width:
            return None
        for byte in line:
            if byte not in digits:
                return None
            pieces.append(digits.index(byte))
    return pieces


def written(pieces, width):
    text = []
    for cell in range(len(pieces)):
        text.append(ord(DIGITS[pieces[cell]]))
        if cell % width == width - 1:
            text.append(LINE_END)
    return text
