"""The directory at the beginning of a font's file: which tables there are, and where."""

from shapefile.reading import unsigned16
from shapefile.reading import unsigned32

HEADER_SIZE = 12
RECORD_SIZE = 16

NEEDED_TABLES = {
    0x636D6170: "cmap",
    0x676C7966: "glyf",
    0x68656164: "head",
    0x68686561: "hhea",
    0x686D7478: "hmtx",
    0x6C6F6361: "loca",
    0x6D617870: "maxp",
}


def directory_refusal(data):
    """-1 to -3 for the first thing that is wrong with the directory, 0 if nothing is."""
    if not directory_is_whole(data):
        return -1
    if not records_are_good(records_of(data), len(data)):
        return -2
    if len(tables_of(data)) < len(NEEDED_TABLES):
        return -3
    return 0


def directory_is_whole(data):
    if len(data) < HEADER_SIZE or unsigned32(data, 0) != 0x00010000:
        return False
    return HEADER_SIZE + RECORD_SIZE * unsigned16(data, 4) <= len(data)


def records_of(data):
    """The tag, offset and length of each table, in the directory's order."""
    records = []
    for k in range(unsigned16(data, 4)):
        at = HEADER_SIZE + RECORD_SIZE * k
        records.append((unsigned32(data, at), unsigned32(data, at + 8), unsigned32(data, at + 12)))
    return records


def records_are_good(records, file_size):
    tag_before = -1
    for tag, offset, length in records:
        if tag <= tag_before or offset + length > file_size:
            return False
        tag_before = tag
    return True


def tables_of(data):
    """The bytes of each needed table that is there, by its name."""
    tables = {}
    # Tables may share bytes: copying each of them could take many times the file's size, so only the needed ones are.
    for tag, offset, length in records_of(data):
        if tag in NEEDED_TABLES:
            tables[NEEDED_TABLES[tag]] = data[offset:offset + length]
    return tables
