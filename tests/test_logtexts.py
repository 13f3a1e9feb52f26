"""[12.1]: texts of logs."""

import unittest

from millhands.errors import BadText
from millhands.logtexts import log_read, log_text
from tests.support import WRONG, raised, seeded, some_log


class LogTexts(unittest.TestCase):
    def test_examples(self):
        self.assertEqual(log_text(((0, False, (), ("a",)), (2, True, (0,), ()))), "log\nlot 0 open - a\nlot 2 done 0 -")
        self.assertEqual(log_read("ab", "log"), ())

    def test_round(self):
        random = seeded(500)
        for letters in ("a", "ab", "abx"):
            for lots in (1, 2, 3, 4):
                for _ in range(20):
                    log = some_log(random, letters, lots, 8)
                    self.assertEqual(log_read(letters=letters, text=log_text(log=log)), log)
                    # Numbers far apart.
                    far = [random.randint(0, 9), 10, 10 ** 12 + random.randint(0, 9), 10 ** 39]
                    log = tuple((far[lot[0]], lot[1], tuple(far[at] for at in lot[2]), lot[3]) for lot in log)
                    self.assertEqual(log_read(letters, log_text(log)), log)
        self.assertEqual(log_text(()), "log")
        log = ((0, True, (), ("?-", "a", "?a")), (7, False, (0,), ()), (10 ** 30, False, (0, 7), ("b",)))
        text = f"log\nlot 0 done - ?- a ?a\nlot 7 open 0 -\nlot {10 ** 30} open 0,7 b"
        self.assertEqual((log_text(log), log_read("ab", text)), (text, log))

    def test_wrong_texts(self):
        for thing in WRONG:
            self.assertEqual(raised(BadText, lambda: log_read("ab", thing)).line, 1 if isinstance(thing, str) else 0)
        for line in ("lot", "lot 0", "lot 0 open", "lot 0 open -", "lot 0 open - ", "lot 0 open -  a", "lot 0 open  - a",
                     "lot 0 opened - a", "lot 0 Done - a", "lot 00 open - a", "lot -1 open - a", "lot +1 open - a",
                     "lot x open - a", "lot  open - a", "lots 0 open - a", " lot 0 open - a", "lot 0 open - c",
                     "lot 0 open - a -", "lot 0 open - ?", "lot 0 open - ab", "lot 0 open 0 a", "lot 1 open 0 a", "lot 0 open  a",
                     "lot 0 open -- a", "lot 0 open , a", "", " ", "log", "lot 1_0 open - a", "lot 0 open - a\t"):
            self.assertEqual(raised(BadText, lambda: log_read("ab", "log\n" + line)).line, 2, line)
            good = "log\nlot 3 open - ?-\nlot 5 done 3 -\n"
            self.assertEqual(raised(BadText, lambda: log_read("ab", good + line)).line, 4, line)
        for text, line in (("log ", 1), ("Log", 1), ("", 1), ("log\n", 2), ("\nlog", 1), ("lot 0 open - a", 1),
                           ("log\nlot 1 open - a\nlot 1 open - a", 3), ("log\nlot 1 open - a\nlot 0 open - a", 3),
                           ("log\nlot 1 open - a\nlot 2 open 0 a", 3), ("log\nlot 1 open - a\nlot 2 open 2 a", 3),
                           ("log\nlot 1 open - a\nlot 2 open 1,1 a", 3), ("log\nlot 1 open - a\nlot 2 open 01 a", 3),
                           ("log\nlot 0 open - a\nlot 1 open - a\nlot 2 open 1,0 a", 4),
                           ("log\nlot 0 open - a\nlot 1 open - a\nlot 2 open 0,1, a", 4),
                           ("log\nlot 0 open - a\nlot 1 open - a\nlot 2 open 0, 1 a", 4),
                           ("log\nlot 0 open - a\nlot 1 open - a\nlot 2 open -,1 a", 4),
                           ("log\nlot 0 open - a\nlot 1 open - a\nlot 2 open 0,1 a\n", 5),
                           ("log\nlot 0 open - a\nq\nlot 2 open 0,1 a", 3)):
            self.assertEqual(raised(BadText, lambda: log_read("ab", text)).line, line, text)
        # The letters tell which items there are.
        self.assertEqual(raised(BadText, lambda: log_read("a", "log\nlot 0 open - b")).line, 2)
        self.assertEqual(log_read("b", "log\nlot 0 open - b"), ((0, False, (), ("b",)),))

    def test_great_figures(self):
        number = int("9" * 1900)
        text = f"log\nlot 0 open - -\nlot {number} done 0 -"
        self.assertEqual(log_read("a", text), ((0, False, (), ()), (number, True, (0,), ())))
        self.assertEqual(raised(BadText, lambda: log_read("a", "log\nlot " + "9" * 5000 + " open - -")).line, 2)


if __name__ == "__main__":
    unittest.main()
