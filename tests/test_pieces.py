import random
import unittest

from nearby.balls import Gather, GatherView
from nearby.building import grid, path, renamed, ring, star
from nearby.coloring import Colors
from nearby.errors import InvalidBounds, InvalidInput, TooLarge
from nearby.forests import Forests
from nearby.joining import Then
from nearby.late import run_late
from nearby.linkwork import LinkColors
from nearby.matching import Matching, NamelessCover
from nearby.network import Network, bounds_of
from nearby.pieces import InPieces, data_text, longest_letter, read_data
from nearby.powers import FarColors
from nearby.ruling import Clusters
from nearby.running import run, states_after
from nearby.simple import Echo, Names, Quiet, Spread
from tests.helpers import Diary, Mixed, NamedMixed, crooked_grid, inputs_for, is_data, samples, scattered

TEXTS = [
    (None, "n"), (0, "i0;"), (7, "i7;"), (-1, "i-1;"), (-10, "i-10;"), (120, "i120;"), (999999999, "i999999999;"),
    (1000000000, "i1000000000;"), (-1000000007, "i-1000000007;"), (10 ** 40, "i1" + "0" * 40 + ";"),
    ("", "s0:"), ("a", "s1:a"), ("s1:a", "s4:s1:a"), (":", "s1::"), ("12", "s2:12"), (";e", "s2:;e"), ("n", "s1:n"),
    ("te", "s2:te"), ("0123456789", "s10:0123456789"), ("\n \u00e9\U0001f600", "s4:\n \u00e9\U0001f600"),
    ((), "te"), ((None,), "tne"), (((),), "ttee"), (((), ()), "tteee".replace("eee", "etee")),
    ((1, "b", (None, -2)), "ti1;s1:btni-2;ee"), (("", ""), "ts0:s0:e"),
]


def drawn(choose, depth):
    """Data of any kind."""
    kind = choose.randrange(5 if depth else 4)
    if kind == 0:
        return None
    if kind == 1:
        return choose.choice([-1, 1]) * choose.randrange(10 ** choose.choice([1, 2, 9, 10, 30]))
    if kind == 2:
        return "".join(choose.choice("aenst0123:;-\u00fc\u4e2d\n ") for _ in range(choose.randrange(14)))
    return tuple(drawn(choose, depth - 1) for _ in range(choose.randrange(5))) if depth else ""


def text_by_words(data):
    if data is None:
        return "n"
    if type(data) is int:
        return "i" + str(data) + ";"
    if type(data) is str:
        return "s" + str(len(data)) + ":" + data
    return "t" + "".join(map(text_by_words, data)) + "e"


class TextTest(unittest.TestCase):
    def test_by_hand(self):
        for data, text in TEXTS:
            self.assertEqual(data_text(data), text)
            self.assertEqual(read_data(text), data)
            self.assertIs(type(read_data(text)), type(data))

    def test_drawn_data(self):
        choose = random.Random(8)
        for _ in range(2000):
            data = drawn(choose, 4)
            self.assertEqual(data_text(data), text_by_words(data))
            self.assertEqual(read_data(data_text(data)), data)

    def test_long_integers(self):
        for digits in [8, 9, 10, 17, 18, 19, 100, 4290]:
            for number in [10 ** digits, 10 ** digits - 1, 10 ** digits + 1, 123456789 * 10 ** (digits - 5)]:
                for data in [number, -number]:
                    self.assertEqual(data_text(data), f"i{data};")
                    self.assertEqual(read_data(data_text(data)), data)
        # Python itself does not write numbers of so many digits.
        number = 10 ** 6000 + 5
        self.assertEqual(data_text(-number), "i-1" + "0" * 5999 + "5;")
        self.assertEqual(read_data("i1" + "0" * 5999 + "5;"), number)

    def test_deep_data(self):
        data = ()
        for _ in range(5000):
            data = (data,)
        self.assertEqual(data_text(data), "t" * 5001 + "e" * 5001)
        found = read_data(data_text(data))
        for _ in range(5000):
            self.assertEqual(len(found), 1)
            found = found[0]
        self.assertEqual(found, ())

    def test_no_texts_of_data(self):
        for text in [
            "", " ", "x", "n ", " n", "nn", "i1;n", "ni1;", "tee", "e", "ne", "te\n", "s1:ab", "s0:a",
            "t", "tn", "tte", "ti1;", "i", "i1", "i-1", "s", "s1", "s12", "ts1:e", "s1:", "s2:a", "s3:ab", "s99999:a",
            "i01;", "i00;", "i-01;", "i-0;", "s01:a", "s00:", "i;", "i-;", "i--1;", "i+1;", "i 1;", "i1 ;", "i1.0;",
            "i1_0;", "i\u0661;", "i\u00b2;", "i1;;", "s:", "s:a", "s-1:a", "s-0:", "s+1:a", "s 1:a", "s\u0661:a", "sx:a",
            "s1;a", "i1:", "I1;", "N", "S1:a", "Te", "tE", "i1,", "ti01;e", "tt", "t e", "tn,ne", "0", "-1", "None", "()",
            "s" + "9" * 5000 + ":a", "i" + "0" * 30 + "1;", "i-" + "0" * 9 + ";",
        ]:
            with self.assertRaises(InvalidInput, msg=text[:20]):
                read_data(text)

    def test_every_cut_text_is_none(self):
        choose = random.Random(3)
        for data in [data for data, _ in TEXTS] + [drawn(choose, 3) for _ in range(200)]:
            text = data_text(data)
            for end in range(len(text)):
                with self.assertRaises(InvalidInput):
                    read_data(text[:end])
            for more in ["n", "e", "i0;", " ", "te", "0", ";"]:
                with self.assertRaises(InvalidInput):
                    read_data(text + more)

    def test_texts_with_other_letters(self):
        choose = random.Random(12)
        for _ in range(1500):
            text = data_text(drawn(choose, 3))
            at = choose.randrange(len(text))
            text = text[:at] + choose.choice("aenst0123:;-") + text[at + choose.randrange(2):]
            try:
                data = read_data(text)
            except InvalidInput:
                continue
            self.assertEqual(data_text(data), text)


class OneLong(Mixed):
    """An algorithm whose only long letter is sent in one round, by one node, through one port."""

    def __init__(self, count, long, name, port):
        Mixed.__init__(self, count)
        self.named, self.long, self.name, self.port = True, long, name, port

    def begin(self, bounds, name, degree, given):
        return (degree, name, 0)

    def letters(self, bounds, state):
        here = state[1] == self.name and state[2] == self.long
        return ["x" * 20 if here and port == self.port else None for port in range(state[0])]

    def receive(self, bounds, state, received):
        return (state[0], state[1], state[2] + 1)

    def output(self, bounds, state):
        return state[2]


def longest_by_words(network, bounds, algorithm, given):
    longest = 0
    for rounds in range(algorithm.rounds(bounds)):
        for state in states_after(network, bounds, algorithm, rounds, given=given):
            for letter in algorithm.letters(bounds, state):
                longest = max(longest, len(text_by_words(letter)))
    return longest


class LongestLetterTest(unittest.TestCase):
    def test_letters_of_the_states(self):
        for network in samples():
            bounds = bounds_of(network)
            for algorithm in [Names(3), Diary(True, 2), Mixed(2), Spread(2), Gather(2), Colors(), Quiet("xyz"), Echo()]:
                for given in [None, inputs_for(network)] if not isinstance(algorithm, Spread) else [inputs_for(network)]:
                    expected = longest_by_words(network, bounds, algorithm, given)
                    self.assertEqual(longest_letter(network, bounds, algorithm, given=given), expected)

    def test_no_letters(self):
        for algorithm in [Echo(), Quiet(10 ** 9), Names(0)]:
            self.assertEqual(longest_letter(path(4), (2, 4), algorithm), 0)
        self.assertEqual(longest_letter(path(1), (1, 1), Names(4)), 0)
        self.assertEqual(longest_letter(Network([40, 2], [[], []]), (3, 41), Gather(2)), 0)

    def test_by_hand(self):
        # t and e, and i0; and i10; after the first round; what the last states would send does not count.
        network = renamed(path(2), [0, 10])
        self.assertEqual(longest_letter(network, (1, 11), Names(1)), 6)
        self.assertEqual(longest_letter(network, (1, 11), Names(2)), 9)
        self.assertEqual(longest_letter(path(2), (1, 2), Spread(1), given=[-100, 3]), 6)

    def test_errors_in_their_order(self):
        for given in [None, [1], []]:
            for bounds in [(1, 3), (2, 2)]:
                with self.assertRaises(InvalidBounds):
                    longest_letter(path(3), bounds, Echo(), given=given)
        for given in [[], [1], [1, 2, 3, 4]]:
            with self.assertRaises(InvalidInput):
                longest_letter(path(3), (2, 3), Echo(), given=given)


class InPiecesTest(unittest.TestCase):
    def check(self, network, bounds, algorithm, size, length, given=None):
        told = InPieces(algorithm, size, length)
        pieces = len(range(0, length, size))
        self.assertIs(told.named, algorithm.named)
        self.assertEqual(told.rounds(bounds), algorithm.rounds(bounds) * pieces)
        expected = run(network, bounds, algorithm, given=given)
        self.assertEqual(run(network, bounds, told, given=given), expected)
        return told, expected

    def test_outputs_for_several_sizes_and_lengths(self):
        for network in samples():
            bounds = bounds_of(network)
            for algorithm in [Names(2), Diary(True, 2), Mixed(3), Spread(2), GatherView(2), NamelessCover(), Echo()]:
                given = inputs_for(network)
                longest = max(1, longest_letter(network, bounds, algorithm, given=given))
                for size in [1, 2, 3, 7, longest, longest + 5]:
                    for length in [longest, longest + 1, size * (longest // size + 1)]:
                        self.check(network, bounds, algorithm, size, length, given)

    def test_library(self):
        for network in [path(1), renamed(path(4), [3, 9, 1, 4]), scattered(), crooked_grid()]:
            bounds = bounds_of(network)
            for algorithm in [
                Colors(), Matching(), Clusters(), Forests(), FarColors(2), LinkColors(), Then(Colors(), Mixed(2)),
            ]:
                longest = max(1, longest_letter(network, bounds, algorithm))
                for size in [longest // 3 + 1, longest]:
                    self.check(network, bounds, algorithm, size, longest)

    def test_in_pieces_twice(self):
        network, bounds = crooked_grid(), bounds_of(crooked_grid())
        longest = longest_letter(network, bounds, Names(2))
        inner = InPieces(Names(2), 5, longest)
        self.assertLessEqual(longest_letter(network, bounds, inner), 8)
        self.check(network, bounds, inner, 3, 8)

    def test_letters_are_small_strings(self):
        for network in [path(1), renamed(path(4), [3, 9, 1, 4]), scattered(), ring(6)]:
            bounds = bounds_of(network)
            for algorithm in [Names(2), Diary(False, 2), Colors()]:
                longest = max(1, longest_letter(network, bounds, algorithm))
                for size in [1, 4, longest]:
                    told = InPieces(algorithm, size, longest + 3)
                    pieces = len(range(0, longest + 3, size))
                    for rounds in range(told.rounds(bounds)):
                        states = states_after(network, bounds, told, rounds)
                        inner = states_after(network, bounds, algorithm, rounds // pieces)
                        start = rounds % pieces * size
                        for state, other in zip(states, inner):
                            self.assertTrue(is_data(state))
                            letters = told.letters(bounds, state)
                            self.assertIs(type(letters), list)
                            texts = [data_text(letter) for letter in algorithm.letters(bounds, other)]
                            self.assertEqual(letters, [text[start:start + size] for text in texts])

    def test_rounds(self):
        for size, length, pieces in [(1, 1, 1), (1, 5, 5), (2, 5, 3), (3, 6, 2), (6, 6, 1), (9, 6, 1), (5, 6, 2)]:
            self.assertEqual(InPieces(Names(4), size, length).rounds((2, 5)), 4 * pieces)
            self.assertEqual(InPieces(Echo(), size, length).rounds((2, 5)), 0)
            self.assertIs(InPieces(Names(4), size, length).named, True)
            self.assertIs(InPieces(Spread(4), size, length).named, False)

    def test_late_runs(self):
        choose = random.Random(5)
        for network in samples():
            bounds = bounds_of(network)
            for algorithm in [NamedMixed(2), Diary(False, 2)]:
                longest = max(1, longest_letter(network, bounds, algorithm, given=inputs_for(network)))
                told, expected = self.check(network, bounds, algorithm, longest // 4 + 1, longest, inputs_for(network))
                choices = [choose.randrange(200) for _ in range(300)]
                self.assertEqual(run_late(network, bounds, told, choices, given=inputs_for(network))[0], expected)

    def test_too_long_letters(self):
        for network in [renamed(path(4), [3, 9, 1, 4]), scattered(), star(4), grid(2, 3)]:
            bounds = bounds_of(network)
            for algorithm in [Names(1), Names(3), Diary(True, 2), Mixed(4), Gather(2), Colors(), Clusters()]:
                longest = longest_letter(network, bounds, algorithm)
                if longest < 2:
                    continue
                for size in [1, 3, longest, longest + 2]:
                    with self.assertRaises(TooLarge):
                        run(network, bounds, InPieces(algorithm, size, longest - 1))
                    with self.assertRaises(TooLarge):
                        run_late(network, bounds, InPieces(algorithm, size, longest - 1), [])
                self.check(network, bounds, algorithm, 5, longest)

    def test_too_long_wherever_the_letter_is_to_be_sent(self):
        network = renamed(path(4), [3, 9, 1, 4])
        for long in range(4):
            for node, name in enumerate(network.names()):
                for port in range(2):
                    algorithm = OneLong(3, long, name, port)
                    sent = long < 3 and port < network.degree(node)
                    self.assertEqual(longest_letter(network, (2, 10), algorithm), 24 if sent else 1)
                    for size in [1, 4, 23, 30]:
                        if sent:
                            with self.assertRaises(TooLarge):
                                run(network, (2, 10), InPieces(algorithm, size, 23))
                        self.check(network, (2, 10), algorithm, size, 24 if sent else 1)

    def test_sizes_and_lengths_below_1(self):
        for size, length in [(0, 1), (1, 0), (-1, 5), (5, -2), (0, 0)]:
            for algorithm in [Names(1), Echo()]:
                with self.assertRaises(InvalidInput):
                    InPieces(algorithm, size, length)


if __name__ == "__main__":
    unittest.main()
