"""Byte lists: numbers, packed parts, digits and pieces (points 4 to 8)."""

from hushlink.errors import Malformed, OutOfRange

MOST_PARTS = 1024
LENGTH_SIZE = 3
DIGITS = "0123456789abcdef"


def to_little(number, size):
    """Return the number in size bytes, the lowest byte first."""
    if number < 0 or number.bit_length() > 8 * size:
        raise OutOfRange("the number does not fit in the bytes")
    data = []
    rest = number
    for _ in range(size):
        data.append(rest & 255)
        rest >>= 8
    return data


def to_big(number, size):
    """Return the number in size bytes, the highest byte first."""
    return to_little(number, size)[::-1]


def from_little(data):
    """Return the number of bytes that begin with the lowest one."""
    return from_big(data[::-1])


def from_big(data):
    """Return the number of bytes that begin with the highest one."""
    number = 0
    for byte in data:
        number = number << 8 | byte
    return number


def pack(parts):
    """Return one byte list that holds all parts and their lengths."""
    if len(parts) > MOST_PARTS:
        raise OutOfRange("there are too many parts")
    data = []
    for part in parts:
        data.extend(to_big(len(part), LENGTH_SIZE))
        data.extend(part)
    return data


def unpack(data):
    """Return the parts of a packed list."""
    parts = []
    start = 0
    while start < len(data):
        if len(parts) == MOST_PARTS:
            raise Malformed("there are too many parts")
        body = start + LENGTH_SIZE
        # If the bytes end within the length, its part would end even later.
        end = body + from_big(data[start:body])
        if end > len(data):
            raise Malformed("the bytes end within a length or a part")
        parts.append(data[body:end])
        start = end
    return parts


def to_digits(data):
    """Return the digits of the bytes, two for each byte."""
    return "".join([DIGITS[byte >> 4] + DIGITS[byte & 15] for byte in data])


def from_digits(text):
    """Return the bytes of a string of digits."""
    if len(text) & 1 == 1:
        raise Malformed("the number of digits is odd")
    values = [digit_value(character) for character in text]
    return [values[k] << 4 | values[k + 1] for k in range(0, len(values), 2)]


def digit_value(character):
    """Return the value of one digit, small or capital."""
    # Only these six capitals are looked up: lower() would also have to be
    # trusted not to turn some other letter into a digit.
    value = (DIGITS + "ABCDEF").find(character)
    if value < 0:
        raise Malformed("a character is no digit")
    if value > 15:
        return value - 6
    return value


def cut(data, size):
    """Return the pieces of the given size; the last one may be shorter."""
    if size < 1:
        raise OutOfRange("a piece has at least one byte")
    return [data[start:start + size] for start in range(0, len(data), size)]


def combine(first, second):
    """Return the exclusive or of two byte lists of the same length."""
    if len(first) != len(second):
        raise OutOfRange("the lengths differ")
    return [one ^ other for one, other in zip(first, second)]


def equal(first, second):
    """Return True if both byte lists are equal, otherwise False."""
    return first == second


def zeros(count):
    """Return a list of count zeros."""
    return [0] * count


def is_bytes(value):
    """Return True if the value, of any kind, is a byte list, otherwise False."""
    return isinstance(value, list) and all([is_byte(item) for item in value])


def is_byte(value):
    """Return True if the value, of any kind, is a byte, otherwise False."""
    # True and False are ints for Python, but not integers for the document.
    if not isinstance(value, int) or isinstance(value, bool):
        return False
    return 0 <= value <= 255
