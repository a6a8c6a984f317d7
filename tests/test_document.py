"""The examples of the document, word for word."""

import unittest

from tests.examples import shown

EVENTS = '''
>>> from manymakers.events import after, begin, run
>>> from manymakers.setups import Plan, Setup
>>> plain = Setup((Plan("trust", "wrap", "forget"),), (0,), 1, 1, 1, 1)
>>> lent = Setup((Plan("hold", "borrow", "saved"),), (2,), 2, 0, 2, 2)
>>> told = [after(plain, begin(plain), ("give", 0)), run(plain, [("give", 0)] * 3)[1]]
>>> told + [run(lent, [("give", 0), ("give", 0), ("restart", 0), ("give", 0), ("give", 0)])]
[(((0, 0, 0, -1),), (0, 0, 0)), [(0, 0, 0), (0, 0, 1), (0, 0, 0)], (((0, 2, 0, 2),), [(0, 2, 0), (1, 2, 0), (2, 2, 0), None])]
'''

EVENTS_WRONG = '''
>>> from manymakers.events import run
>>> from manymakers.setups import Plan, Setup
>>> run(Setup((Plan("trust", "wrap", "forget"),), (0,), 1, 1, 1, 1), [("give", 0), ("clock", 0, 0)])
raises InvalidHistory(index=1)
'''

WAYS = '''
>>> from manymakers.setups import Plan, Setup
>>> from manymakers.ways import number_way, series_way, standings, way_to
>>> setup = Setup((Plan("refuse", "refuse", "wait"),), (0,), 1, 0, 1, 1)
>>> told = [len(standings(setup)), way_to(setup, ((1, -1, 0, 0),)), number_way(setup, (1, 0, 0))]
>>> told + [series_way(setup, [(0, 0, 0), (1, 0, 0)]), series_way(setup, [(1, 0, 0), (0, 0, 0)])]
[10, [('give', 0), ('clock', 0, 1), ('restart', 0)], [('clock', 0, 1), ('give', 0)], [('give', 0), ('clock', 0, 1), ('give', 0)], None]
'''

WAYS_WRONG = '''
>>> from manymakers.setups import Plan, Setup
>>> from manymakers.ways import number_way
>>> number_way(Setup((Plan("trust", "wrap", "forget"),), (0,), 1, 1, 1, 1), (1, 0))
raises InvalidNumber()
'''

CLASHES = '''
>>> from manymakers.clashes import clash, disorder, most_numbers, safe_plans
>>> from manymakers.setups import Plan, Setup
>>> careful = Plan("refuse", "refuse", "wait")
>>> plain, alone = Setup((Plan("trust", "wrap", "forget"),), (0,), 1, 1, 1, 1), Setup((careful,), (0,), 1, 0, 1, 1)
>>> both, safe = Setup((careful, careful), (1, 1), 1, 0, 1, 1), safe_plans(1, 1, 1, 1)
>>> told = [clash(plain), disorder(plain), clash(alone), disorder(alone), clash(both)]
>>> told + [most_numbers(plain), most_numbers(alone), ("refuse", "refuse", "wait") in safe, ("trust", "refuse", "wait") in safe]
[[('give', 0), ('give', 0), ('give', 0)], [('give', 0), ('give', 0), ('give', 0)], None, None, [('give', 0), ('give', 1)], 4, 2, True, False]
'''

COUNTS = '''
>>> from manymakers.clashes import history_count, parting
>>> from manymakers.setups import Plan, Setup
>>> alone = Setup((Plan("refuse", "refuse", "wait"),), (0,), 1, 0, 1, 1)
>>> other = Setup((Plan("refuse", "borrow", "wait"),), (0,), 1, 0, 1, 1)
>>> [parting(alone, other), [history_count(alone, 2, given) for given in (0, 1, 2)], parting(alone, alone)]
[[('give', 0), ('give', 0)], [4, 5, 0], None]
'''

COUNTS_WRONG = '''
>>> from manymakers.clashes import history_count
>>> from manymakers.setups import Plan, Setup
>>> history_count(Setup((Plan("trust", "wrap", "forget"),), (0,), 1, 1, 1, 1), 31, 0)
raises InvalidCount()
'''

LENDING = '''
>>> from manymakers.lending import fewest_marks, holders, lent, shortest_length
>>> asks = ((0, 5), (3, 6), (5, 7), (10, 5), (10, 7))
>>> [lent(2, 10, asks), holders(2, 10, asks, 12), fewest_marks(10, asks), shortest_length(2, asks)]
[[0, 1, None, 0, None], [(0, 5), (1, 6)], 3, 6]
'''

LENDING_WRONG = '''
>>> from manymakers.lending import lent
>>> lent(2, 10, ((5, 1), (4, 1)))
raises InvalidAsks(index=1)
'''

TELLING = r'''
>>> from manymakers.telling import ends_behind, first_wrong, givers, log_way
>>> from manymakers.setups import Plan, Setup
>>> one = Setup((Plan("trust", "wrap", "forget"),), (1,), 2, 1, 2, 2)
>>> numbers = [(0, 1, 0), (0, 1, 1)]
>>> [ends_behind(one, numbers), givers(one, numbers), log_way(one, [(0, (1, 1, 0))]), first_wrong(one, [(0, None)])]
[[((0, 0, 1, -1),)], [(0,), (0,)], [('clock', 0, 1), ('give', 0)], 0]
'''

TELLING_WRONG = r'''
>>> from manymakers.telling import log_way
>>> from manymakers.setups import Plan, Setup
>>> one = Setup((Plan("trust", "wrap", "forget"),), (1,), 2, 1, 2, 2)
>>> log_way(one, [(1, None)])
raises InvalidLog(index=0)
'''

PACKING = r'''
>>> from manymakers.packing import packed, unpacked
>>> [packed((5, 1, 2), 4, 3), unpacked(650, 4, 3)]
[650, (5, 1, 2)]
'''

PACKING_WRONG = r'''
>>> from manymakers.packing import packed
>>> packed((5, 1, 2), 0, 3)
raises InvalidNumber()
'''

HOUSES = r'''
>>> from manymakers.houses import House
>>> from manymakers.setups import Plan, Setup
>>> one = Setup((Plan("trust", "wrap", "forget"),), (1,), 2, 1, 2, 2)
>>> house = House(one)
>>> found = house.apply_all([("give", 0), ("clock", 0, 2), ("restart", 0), ("give", 0), ("clock", 0, 0)])
>>> [found, house.has_clash, house.is_orderly, house.give(0), house.has_clash, house.is_orderly, house.undo()]
[[(0, 1, 0), 2, False, (2, 1, 0), -2], False, True, (0, 1, 0), True, False, True]
'''

HOUSES_WRONG = r'''
>>> from manymakers.houses import House
>>> from manymakers.setups import Plan, Setup
>>> one = Setup((Plan("trust", "wrap", "forget"),), (1,), 2, 1, 2, 2)
>>> House(one).clock(0, 0)
raises InvalidEvent()
'''

WATCHING = r'''
>>> from manymakers.watching import Watcher
>>> from manymakers.setups import Plan, Setup
>>> one = Setup((Plan("trust", "wrap", "forget"),), (1,), 2, 1, 2, 2)
>>> watcher = Watcher(one)
>>> found = [watcher.next_numbers(), watcher.seen((2, 1, 0)), watcher.sure_giver(), watcher.sure_parts()]
>>> found + [watcher.standings_left, watcher.told_so_far]
[[(0, 1, 0), (1, 1, 0), (2, 1, 0)], 1, 0, ((2, 2, 0, -1),), [((2, 2, 0, -1),)], [(2, 1, 0)]]
'''

WATCHING_WRONG = r'''
>>> from manymakers.watching import Watcher
>>> from manymakers.setups import Plan, Setup
>>> one = Setup((Plan("trust", "wrap", "forget"),), (1,), 2, 1, 2, 2)
>>> Watcher(one).seen((0, 0, 0))
raises NoHistory()
'''

NOTATION = r'''
>>> from manymakers.notation import history_text, number_text, read_history, standing_text
>>> from manymakers.setups import Plan, Setup
>>> one = Setup((Plan("trust", "wrap", "forget"),), (1,), 2, 1, 2, 2)
>>> events = [("clock", 0, 2), ("give", 0)]
>>> found = [history_text(events), read_history(one, history_text(events)) == events]
>>> found + [number_text((2, 1, 0)), number_text(None), standing_text(one, ((2, -1, 0, -1),))]
['clock 0 2\ngive 0', True, '2.1.0', 'none', '2 - 0 -']
'''

NOTATION_WRONG = r'''
>>> from manymakers.notation import read_history
>>> from manymakers.setups import Plan, Setup
>>> one = Setup((Plan("trust", "wrap", "forget"),), (1,), 2, 1, 2, 2)
>>> read_history(one, "clock 0")
raises InvalidLine(row=0, word=2)
'''

CODEC = r'''
>>> from manymakers.codec import decode_setup, encode_setup
>>> from manymakers.setups import Plan, Setup
>>> one = Setup((Plan("trust", "wrap", "forget"),), (1,), 2, 1, 2, 2)
>>> [encode_setup(one), decode_setup(encode_setup(one)) == one]
[[127, 1, 0, 0, 0, 1, 2, 1, 2, 2, 8], True]
'''

CODEC_WRONG = r'''
>>> from manymakers.codec import decode_setup
>>> decode_setup([127, 3])
raises DecodeError(offset=1)
'''

SCRIPTS = r'''
>>> from manymakers.scripts import run_script
>>> from manymakers.setups import Plan, Setup
>>> one = Setup((Plan("trust", "wrap", "forget"),), (1,), 2, 1, 2, 2)
>>> lines = ["give 0", "clock 0 2", "when 0 2", "give 0", "end", "repeat 2", "give 0", "end", "count"]
>>> house, output = run_script(one, "\n".join(lines))
>>> [output, house.has_clash, len(house.history)]
[['0.1.0', '2.1.0', '2.1.1', '2.1.0', '4'], True, 5]
'''

SCRIPTS_WRONG = r'''
>>> from manymakers.scripts import run_script
>>> from manymakers.setups import Plan, Setup
>>> one = Setup((Plan("trust", "wrap", "forget"),), (1,), 2, 1, 2, 2)
>>> run_script(one, "clock 0 0")
raises ExecutionFailed(row=0)
'''


class Examples(unittest.TestCase):
    def check(self, text):
        found, said = shown(text)
        self.assertEqual(found, said)

    def test_events(self):
        self.check(EVENTS)
        self.check(EVENTS_WRONG)

    def test_ways(self):
        self.check(WAYS)
        self.check(WAYS_WRONG)

    def test_clashes(self):
        self.check(CLASHES)
        self.check(COUNTS)
        self.check(COUNTS_WRONG)

    def test_lending(self):
        self.check(LENDING)
        self.check(LENDING_WRONG)

    def test_telling(self):
        self.check(TELLING)
        self.check(TELLING_WRONG)

    def test_packing(self):
        self.check(PACKING)
        self.check(PACKING_WRONG)

    def test_houses(self):
        self.check(HOUSES)
        self.check(HOUSES_WRONG)

    def test_watching(self):
        self.check(WATCHING)
        self.check(WATCHING_WRONG)

    def test_notation(self):
        self.check(NOTATION)
        self.check(NOTATION_WRONG)

    def test_codec(self):
        self.check(CODEC)
        self.check(CODEC_WRONG)

    def test_scripts(self):
        self.check(SCRIPTS)
        self.check(SCRIPTS_WRONG)
