"""Which changes are kept, so that they can be taken back."""

import unittest

from ordersalone.changes import begin, tell, turn, untell, without
from ordersalone.looks import heard, links, order, orders, pairs, past, told
from ordersalone.record import Record


def begun(n):
    record = Record()
    begin(record, n)
    return record


class KeptChanges(unittest.TestCase):

    def test_none_at_the_beginning(self):
        self.assertEqual(begun(3).earlier, [])

    def test_each_change_keeps_what_was_ahead_of_it(self):
        record = begun(3)
        tell(record, 0, 1)
        tell(record, 1, 2)
        untell(record, 0, 1)
        turn(record)
        without(record, 0)
        self.assertEqual(record.earlier, [
            (3, []), (3, [(0, 1)]), (3, [(0, 1), (1, 2)]), (3, [(1, 2)]), (3, [(2, 1)]),
        ])

    def test_a_turn_with_nothing_told_is_a_change(self):
        record = begun(2)
        turn(record)
        self.assertEqual(record.earlier, [(2, [])])

    def test_the_last_ten(self):
        record = begun(4)
        for turns in range(10):
            self.assertEqual(len(record.earlier), turns)
            turn(record)
        tell(record, 0, 1)
        self.assertEqual(record.earlier, [(4, [])] * 10)
        for turns in range(10):
            turn(record)
        self.assertEqual(record.earlier, [(4, [(0, 1)]), (4, [(1, 0)])] * 5)

    def test_since_begin(self):
        record = begun(4)
        tell(record, 0, 1)
        begin(record, 7)
        self.assertEqual(record.earlier, [(4, [])])
        begin(record, 4)
        self.assertEqual(record.earlier, [])

    def test_refused_is_no_change(self):
        record = begun(3)
        tell(record, 0, 1)
        refused = (
            tell(record, 0, 1), tell(record, 1, 0), tell(record, 3, 0), untell(record, 1, 0), untell(record, 0, 3),
            without(record, 3), without(begun(1), 0),
        )
        self.assertEqual(refused, ([-17], [-35], [-2], [-33], [-2], [-2], [-6]))
        self.assertEqual(record.earlier, [(3, [])])

    def test_looking_is_no_change(self):
        record = begun(3)
        tell(record, 0, 1)
        for look in (told, pairs, links, orders):
            look(record)
        past(record, 1)
        order(record, 0)
        heard(record, 0, 1)
        self.assertEqual((record.size, record.told_pairs, record.earlier), (3, [(0, 1)], [(3, [])]))
