"""The symbols that say a column of bytes."""


def digits_of(number):
    """A number of repetitions in digits 1 and 2, lowest first, told by the symbols 0 and 1."""
    digits = []
    while number > 0:
        digits.append((number - 1) % 2)
        number = (number - 1) // 2
    return digits


def symbols_of(column, used):
    """The symbols for a column; used are the bytes that are there, in order."""
    row = list(used)
    symbols = []
    repeated = 0
    for byte in column:
        if byte == row[0]:
            repeated += 1
        else:
            symbols.extend(digits_of(repeated))
            repeated = 0
            place = row.index(byte)
            row.insert(0, row.pop(place))
            symbols.append(place + 1)
    symbols.extend(digits_of(repeated))
    symbols.append(len(row) + 1)
    return symbols
