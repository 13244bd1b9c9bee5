"""[19]: texts with a character, a word or a line put in, left out, doubled or exchanged."""

import random
import unittest

from helpers import TEXTS, error_of
from text_oracle import first_fault
from handsroom.houses import House
from handsroom.signatures import Signature

CHARACTERS = "abgkmnxz019 :.*+>=-,\nA~"
WORDS = sorted(set(" ".join(TEXTS).replace("\n", " ").replace(",", " ").split(" "))) + [
    "as g", "as k", "-", ":", "", "n0", "x:box", "box*", "box**", "a>a", "a>b", "b>a", "=b", "+b", "zz", "box.zz"]
LINES = sorted(set("\n".join(TEXTS).split("\n"))) + [
    "lock c", "lock d", "lock e", "kind c3 - n", "kind c4 - n n", "body b4 :", "routine t", "", "do skip", "block",
    "routine t a:box b:box c:box d:box e:box", "body big box box box box : +a", "do " + ", ".join(["skip"] * 24),
    "repeat", "either", "close", "or", "with skip", "drop h", "give k", "do take a as x", "do take a as q, take b as q"]


def changed(rng, parts, new):
    """The parts, of a list, with one of them put in, left out, doubled or exchanged."""
    parts = list(parts)
    at = rng.randrange(len(parts))
    which = rng.randrange(5)
    if which == 0:
        parts.insert(at, new)
    elif which == 1:
        del parts[at]
    elif which == 2:
        parts.insert(at, parts[at])
    elif which == 3:
        parts[at] = new
    else:
        other = rng.randrange(len(parts))
        parts[at], parts[other] = parts[other], parts[at]
    return parts


def mutated(rng, text):
    which = rng.randrange(3)
    if which == 0 and text:
        return "".join(changed(rng, text, rng.choice(CHARACTERS)))
    lines = text.split("\n")
    if which == 1:
        at = rng.randrange(len(lines))
        lines[at] = " ".join(changed(rng, lines[at].split(" "), rng.choice(WORDS)))
        return "\n".join(lines)
    return "\n".join(changed(rng, lines, rng.choice(LINES)))


class MutationTest(unittest.TestCase):
    def check(self, text):
        want = first_fault(text)
        if want is not None:
            self.assertEqual(error_of(House.read, text), ("BadLine",) + want, text)
        else:
            self.assertEqual(House.read(text).text(), text)
        return want and want[1]

    def test_mutated_texts(self):
        rng = random.Random(20)
        seen = {}
        for _ in range(6000):
            text = rng.choice(TEXTS)
            for _ in range(rng.choice((1, 1, 1, 2, 3))):
                text = mutated(rng, text)
            rule = self.check(text)
            seen[rule] = seen.get(rule, 0) + 1
        self.assertEqual(len(seen), 12)

    def test_each_line_and_word_left_out_and_doubled(self):
        for text in TEXTS:
            lines = text.split("\n")
            for at, line in enumerate(lines):
                self.check("\n".join(lines[:at] + lines[at + 1:]))
                self.check("\n".join(lines[:at] + [line] + lines[at:]))
                words = line.split(" ")
                for k in range(len(words)):
                    for more in (words[:k] + words[k + 1:], words[:k + 1] + words[k:]):
                        self.check("\n".join(lines[:at] + [" ".join(more)] + lines[at + 1:]))

    def test_mutated_signatures(self):
        rng = random.Random(21)
        head = "lock a\nlock b\nkind box a size\nkind bag - left right"
        house = House.read(head + "\nroutine r\ndone")
        texts = [": +a +b a>b b>a box.size bag.left =a =b", "box* bag : +b box.size bag.right", ":", "bag* bag* box :"]
        good = 0
        for _ in range(6000):
            words = rng.choice(texts).split(" ")
            for _ in range(rng.choice((1, 2))):
                words = changed(rng, words, rng.choice(WORDS)) or [""]
            text = " ".join(words)
            want = first_fault(head + "\nbody q " + text + "\nroutine r\ndone")
            if want is None:
                good += 1
                self.assertEqual(Signature.read(house.hall, text).text(), text)
            else:
                self.assertEqual(error_of(Signature.read, house.hall, text), ("BadPart", want[1]), text)
        self.assertGreater(good, 300)


if __name__ == "__main__":
    unittest.main()
