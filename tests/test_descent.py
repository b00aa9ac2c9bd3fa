import unittest

from archway.descent import completed, inner_values, whole_value
from archway.documents import Document
from archway.readers import value
from tests.plain import plain_value, texts_with
from tests.rows import plain_arches, row
from tests.samples import DEPTH, FLIPS, PARITY, RESETS, cyclic

SEVEN = cyclic(7, [3])


class InnerValues(unittest.TestCase):
    def test_the_values_of_letters_and_arches(self):
        self.assertEqual(inner_values(PARITY, []), [])
        self.assertEqual(inner_values(PARITY, row("l0 c0 l0 r0 c0 r0")), [1, 1, 1, None, 0, None])
        self.assertEqual(inner_values(DEPTH, row("c0 c0 l0 r0 r0")), [2, 1, 0, None, None])

    def test_all_short_texts(self):
        for reader in (PARITY, DEPTH, FLIPS, RESETS):
            for text in texts_with(reader[0], 3):
                found = inner_values(reader, text)
                backs = dict(plain_arches(text))
                for place, (kind, _) in enumerate(text):
                    end = backs.get(place, place) + 1
                    wanted = None if kind == "return" else plain_value(reader, text[place:end])
                    self.assertEqual(found[place], wanted)
                self.assertEqual(whole_value(reader, text, found), value(reader, text))


class Kept(unittest.TestCase):
    def test_kept_values_are_used_again(self):
        # No letter has the value 4 and no arch here has 5: they are not computed but taken.
        kept = [None, 5, None, None, 4, None]
        self.assertEqual(completed(SEVEN, row("c0 c0 l0 r0 l0 r0"), kept), [2, 5, 1, None, 4, None])
        self.assertEqual(kept, [None, 5, None, None, 4, None])

    def test_an_edit_uses_kept_values_again(self):
        words = "c0 c0 l0 r0 c0 l0 r0 r0 c0 l0 r0"
        document = Document((2, 1, 1), row(words))
        document.keep_statement("one", (("letter", 1), ("first", 0)))
        # No arch has the value 2 by itself, so it tells what was taken and not computed.
        found = document.current.found["one"]
        self.assertEqual(found, [1, 1, 1, None, 1, 1, None, None, 1, 1, None])
        found[4], found[8] = 2, 2
        document.insert(2, row("l0"))
        self.assertEqual(document.made(), 3)
        self.assertEqual(document.current.found["one"], [1, 1, 1, 1, None, 2, 1, None, None, 2, 1, None])
        document.relabel(5, 0)
        self.assertEqual(document.current.found["one"], [1, 1, 1, 1, None, 1, 1, None, None, 2, 1, None])


if __name__ == "__main__":
    unittest.main()
