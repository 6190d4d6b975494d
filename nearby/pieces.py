"""Texts of data, and algorithms that send their letters in pieces."""

from nearby.errors import InvalidInput, TooLarge
from nearby.running import states_by_round

# Python itself writes and reads only some thousand digits at once.
BLOCK = 1000000000
BLOCK_DIGITS = 9


def data_text(data):
    """Return the text of data."""
    parts = []
    # Tuples may be nested deeper than functions can call each other.
    waiting = [(data, False)]
    while waiting:
        part, is_text = waiting.pop()
        if is_text:
            parts.append(part)
        elif isinstance(part, tuple):
            parts.append("t")
            waiting.append(("e", True))
            waiting.extend([(inner, False) for inner in part[::-1]])
        else:
            parts.append(_plain_text(part))
    return "".join(parts)


def _plain_text(data):
    if data is None:
        return "n"
    if isinstance(data, str):
        return f"s{len(data)}:{data}"
    sign = "-" if data < 0 else ""
    return f"i{sign}{_digits(abs(data))};"


def _digits(number):
    blocks = []
    while number >= BLOCK:
        blocks.append(str(number % BLOCK).zfill(BLOCK_DIGITS))
        number = number // BLOCK
    blocks.append(str(number))
    return "".join(blocks[::-1])


def read_data(text):
    """Return the data of a text."""
    # The lists of what has been read in each tuple that is still open, and outside of all.
    rows = [[]]
    at = 0
    while at < len(text):
        if text[at] == "t":
            rows.append([])
            at += 1
        elif text[at] == "e":
            _close(rows)
            at += 1
        else:
            data, at = _read_plain(text, at)
            rows[-1].append(data)
    if len(rows) > 1 or len(rows[0]) != 1:
        raise InvalidInput("a tuple has no end, or the text is not one datum")
    return rows[0][0]


def _close(rows):
    if len(rows) == 1:
        raise InvalidInput("there is an end without a tuple")
    row = rows.pop()
    rows[-1].append(tuple(row))


def _read_plain(text, at):
    """Return the data that is no tuple at a place of a text, and the place behind it."""
    if text[at] == "n":
        return None, at + 1
    if text[at] == "i":
        end = _found(text, ";", at)
        word = text[at + 1:end]
        return (-_number(word[1:], 1) if word.startswith("-") else _number(word, 0)), end + 1
    if text[at] == "s":
        start = _found(text, ":", at) + 1
        end = start + _number(text[at + 1:start - 1], 0)
        if end > len(text):
            raise InvalidInput("a string is longer than the text")
        return text[start:end], end
    raise InvalidInput("no data begins with this letter")


def _found(text, mark, at):
    end = text.find(mark, at)
    if end == -1:
        raise InvalidInput("a number has no end")
    return end


def _number(digits, least):
    """Return the number, at least a given one, of decimal digits without leading zeros."""
    if not (digits.isascii() and digits.isdigit()) or (digits.startswith("0") and digits != "0"):
        raise InvalidInput("this is no number")
    head = len(digits) % BLOCK_DIGITS
    number = int(digits[:head]) if head > 0 else 0
    for at in range(head, len(digits), BLOCK_DIGITS):
        number = number * BLOCK + int(digits[at:at + BLOCK_DIGITS])
    if number < least:
        raise InvalidInput("a number is too small here")
    return number


class InPieces:
    """The algorithm that does the same as another one, with letters in pieces.

    A state is a tuple (rounds left, inner, texts, done, pieces): the rounds left
    are those of the other algorithm, inner is its state, and texts are those of
    its next letters. In the next round of the other algorithm, done pieces have
    been sent, and pieces has for each port what has been received, put together.
    """

    def __init__(self, algorithm, size, length):
        if size < 1 or length < 1:
            raise InvalidInput("the size or the length is less than 1")
        self.named = algorithm.named
        self._algorithm = algorithm
        self._size = size
        self._length = length
        self._count = (length + size - 1) // size

    def rounds(self, bounds):
        """Return the number of rounds."""
        return self._algorithm.rounds(bounds) * self._count

    def begin(self, bounds, name, degree, given):
        """Return the state before the first round."""
        inner = self._algorithm.begin(bounds, name, degree, given)
        return self._with_texts(bounds, self._algorithm.rounds(bounds), inner)

    def letters(self, bounds, state):
        """Return the letters of a round: the next piece of each text."""
        start = state[3] * self._size
        return [text[start:start + self._size] for text in state[2]]

    def receive(self, bounds, state, received):
        """Return the state after a round."""
        left, inner, texts, done, pieces = state
        together = [piece + more for piece, more in zip(pieces, received)]
        if done + 1 < self._count:
            return left, inner, texts, done + 1, tuple(together)
        after = self._algorithm.receive(bounds, inner, [read_data(text) for text in together])
        return self._with_texts(bounds, left - 1, after)

    def output(self, bounds, state):
        """Return the output of the other algorithm."""
        return self._algorithm.output(bounds, state[1])

    def _with_texts(self, bounds, left, inner):
        """Return the state in which the other algorithm has come to a state."""
        if left == 0:
            # No more letters are to be sent, so none is too long.
            return 0, inner, (), 0, ()
        texts = [data_text(letter) for letter in self._algorithm.letters(bounds, inner)]
        if any([len(text) > self._length for text in texts]):
            raise TooLarge("a letter has a longer text")
        return left, inner, tuple(texts), 0, ("",) * len(texts)


def longest_letter(network, bounds, algorithm, *, given=None):
    """Return the greatest number of characters of the text of a letter of a run, 0 if there is none."""
    longest = 0
    for states in states_by_round(network, bounds, algorithm, given)[:-1]:
        for state in states:
            lengths = [len(data_text(letter)) for letter in algorithm.letters(bounds, state)]
            longest = max([longest] + lengths)
    return longest
