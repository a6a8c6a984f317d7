"""The examples of the document, word for word."""

import unittest

from tests.examples import shown

EVENTS = '''
>>> from manymakers.events import after, begin, run
>>> from manymakers.setups import Plan, Setup
>>> plain = Setup((Plan("trust", "wrap", "forget"),), (0,), 1, 1, 1, 1)
>>> lent = Setup((Plan("hold", "borrow", "saved"),), (2,), 2, 0, 2, 2)
>>> told = [after(plain, begin(plain), ("give", 0)), run(plain, [("give", 0)] * 3)[1]]
>>> told + [run(lent, [("give", 0), ("give", 0), ("restart", 0), ("give", 0), ("give", 0)])]
[(((0, 0, 0, -1),), (0, 0, 0)), [(0, 0, 0), (0, 0, 1), (0, 0, 0)], (((0, 2, 0, 2),), [(0, 2, 0), (1, 2, 0), (2, 2, 0), None])]
'''

EVENTS_WRONG = '''
>>> from manymakers.events import run
>>> from manymakers.setups import Plan, Setup
>>> run(Setup((Plan("trust", "wrap", "forget"),), (0,), 1, 1, 1, 1), [("give", 0), ("clock", 0, 0)])
raises InvalidHistory(index=1)
'''


class Examples(unittest.TestCase):
    def check(self, text):
        found, said = shown(text)
        self.assertEqual(found, said)

    def test_events(self):
        self.check(EVENTS)
        self.check(EVENTS_WRONG)
