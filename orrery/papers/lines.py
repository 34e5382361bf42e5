"""How lines and numbers are written in texts, and read again."""

DIGITS = "0123456789"
MOST_DIGITS = 60
PORTION_DIGITS = 64
PORTION = 10 ** 64


def write_line(words):
    """A line of words, with the line feed behind it."""
    return " ".join(words) + "\n"


def number_line(word, numbers):
    """A line of a word and numbers."""
    return write_line([word] + [digits_of(number) for number in numbers])


def digits_of(number):
    """The text of a number, however great it is."""
    # Python itself refuses to write a number of some thousand digits at once.
    if number < 0:
        return "-" + digits_of(-number)
    portions = []
    left = number
    while left >= PORTION:
        left, portion = divmod(left, PORTION)
        portions.append(str(portion).zfill(PORTION_DIGITS))
    portions.append(str(left))
    return "".join(reversed(portions))


def number_of(word):
    """The integer that a word is, or None."""
    digits = word[1:] if word.startswith("-") else word
    if not 1 <= len(digits) <= MOST_DIGITS:
        return None
    # A method like isdigit would take the digits of other scripts, too.
    if not all([sign in DIGITS for sign in digits]):
        return None
    if digits[0] == "0" and word != "0":
        return None
    return int(word)


def numbers_of(words):
    """The list of the integers that words are, or None if one of them is none."""
    numbers = [number_of(word) for word in words]
    if None in numbers:
        return None
    return numbers


def interval_of(low, high):
    """The interval of two integers, or None if the low is more than the high."""
    if low > high:
        return None
    return (low, high)


def box_of(numbers):
    """The box of a list of six integers, or None if a low is more than its high."""
    x = interval_of(numbers[0], numbers[1])
    y = interval_of(numbers[2], numbers[3])
    z = interval_of(numbers[4], numbers[5])
    if x is None or y is None or z is None:
        return None
    return (x, y, z)


def box_numbers(box):
    """The list of the six numbers of a box."""
    x, y, z = box
    return [x[0], x[1], y[0], y[1], z[0], z[1]]
