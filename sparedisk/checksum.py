"""The sum of bytes: their CRC-32C."""

ALL_ONES = 0xFFFFFFFF

# What four of the document's eight steps do to the lowest four bits. Four at a time
# are quick enough for a whole journal, and the table is still short enough to be read.
FOUR_STEPS = (
    0x00000000, 0x105EC76F, 0x20BD8EDE, 0x30E349B1,
    0x417B1DBC, 0x5125DAD3, 0x61C69362, 0x7198540D,
    0x82F63B78, 0x92A8FC17, 0xA24BB5A6, 0xB21572C9,
    0xC38D26C4, 0xD3D3E1AB, 0xE330A81A, 0xF36E6F75,
)


def sum_of(data):
    """The sum of a list of bytes."""
    c = ALL_ONES
    for byte in data:
        c = c ^ byte
        c = (c >> 4) ^ FOUR_STEPS[c & 15]
        c = (c >> 4) ^ FOUR_STEPS[c & 15]
    return c ^ ALL_ONES
