"""The sum of a block's bytes, and the sum of all blocks."""

POLYNOMIAL = 0x04C11DB7
HIGHEST_BIT = 0x80000000
ALL_ONES = 0xFFFFFFFF


def eight_steps(number):
    """What eight steps of the division leave of a number of 32 bits."""
    for step in range(8):
        if number & HIGHEST_BIT:
            number = ((number << 1) & ALL_ONES) ^ POLYNOMIAL
        else:
            number = number << 1
    return number


def block_sum(data):
    """The CRC of 32 bits over the bytes."""
    # Eight steps at once for each byte: the table costs less than the single steps do.
    table = [eight_steps(byte << 24) for byte in range(256)]
    total = ALL_ONES
    for byte in data:
        total = ((total << 8) & ALL_ONES) ^ table[(total >> 24) ^ byte]
    return total ^ ALL_ONES


def with_block(total, added):
    """The sum of all blocks with one block's sum added."""
    turned = ((total << 1) & ALL_ONES) | (total >> 31)
    return turned ^ added
