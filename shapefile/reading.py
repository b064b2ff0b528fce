"""Whole numbers out of a row of bytes, the high byte first."""


def unsigned16(row, at):
    return row[at] * 256 + row[at + 1]


def signed16(row, at):
    number = unsigned16(row, at)
    return number - 65536 if number >= 32768 else number


def unsigned32(row, at):
    return unsigned16(row, at) * 65536 + unsigned16(row, at + 2)
