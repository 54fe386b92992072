"""Point 22: the order of timers."""

import random
import unittest

from pagesatonce.timers import Timers


def made(*timers):
    new = Timers()
    for key, due in timers:
        new.put((key,), due)
    return new


class Order(unittest.TestCase):
    def test_no_timers(self):
        self.assertIsNone(Timers().first())
        self.assertEqual(Timers().keys(), [])
        self.assertIsNone(Timers().due(("a",)))

    def test_by_the_time_at_which_they_are_due(self):
        timers = made(("a", 30), ("b", 10), ("c", 20))
        self.assertEqual(timers.keys(), [("b",), ("c",), ("a",)])
        self.assertEqual(timers.first(), (10, ("b",)))
        self.assertEqual([timers.due((key,)) for key in "abcd"], [30, 10, 20, None])

    def test_those_for_the_same_time_as_they_were_set(self):
        timers = made(("z", 5), ("a", 5), ("m", 4), ("b", 5))
        self.assertEqual(timers.keys(), [("m",), ("z",), ("a",), ("b",)])
        timers.remove(("m",))
        self.assertEqual(timers.first(), (5, ("z",)))

    def test_time_zero(self):
        timers = made(("a", 0))
        self.assertEqual(timers.due(("a",)), 0)
        self.assertEqual(timers.first(), (0, ("a",)))

    def test_keys_of_several_strings(self):
        timers = Timers()
        for key in (("job", "b"), (), ("job",), ("job", "a")):
            timers.put(key, 7)
        self.assertEqual(timers.keys(), [("job", "b"), (), ("job",), ("job", "a")])
        self.assertEqual(timers.due(()), 7)


class Put(unittest.TestCase):
    def test_it_returns_none(self):
        self.assertIsNone(Timers().put(("a",), 1))

    def test_put_anew_with_another_time(self):
        timers = made(("a", 1), ("b", 2), ("a", 3))
        self.assertEqual(timers.keys(), [("b",), ("a",)])
        self.assertEqual(timers.due(("a",)), 3)
        timers.put(("b",), 1)
        self.assertEqual(timers.first(), (1, ("b",)))

    def test_put_anew_with_the_same_time_it_counts_as_set_last(self):
        timers = made(("a", 5), ("b", 5), ("a", 5))
        self.assertEqual(timers.keys(), [("b",), ("a",)])
        timers = made(("a", 9), ("b", 5), ("a", 5))
        self.assertEqual(timers.keys(), [("b",), ("a",)])


class Remove(unittest.TestCase):
    def test_whether_it_was_set(self):
        timers = made(("a", 1), ("b", 2))
        self.assertIs(timers.remove(("c",)), False)
        self.assertIs(timers.remove(("a",)), True)
        self.assertIs(timers.remove(("a",)), False)
        self.assertEqual(timers.keys(), [("b",)])
        self.assertIsNone(timers.due(("a",)))
        self.assertEqual(timers.first(), (2, ("b",)))

    def test_one_that_was_removed_counts_as_set_last_when_it_is_put(self):
        timers = made(("a", 5), ("b", 5))
        timers.remove(("a",))
        timers.put(("a",), 5)
        self.assertEqual(timers.keys(), [("b",), ("a",)])


class Lists(unittest.TestCase):
    def test_they_are_new(self):
        timers = made(("a", 1))
        timers.keys().append("more")
        self.assertEqual(timers.keys(), [("a",)])
        timers.keys().clear()
        self.assertEqual(timers.first(), (1, ("a",)))


class ManyTimers(unittest.TestCase):
    def test_random_calls(self):
        dice = random.Random(22)
        for _ in range(200):
            timers, rows = Timers(), []
            for number in range(40):
                key = (dice.choice("abcdef"),)
                was_set = any(row[2] == key for row in rows)
                rows = [row for row in rows if row[2] != key]
                if dice.random() < 0.7:
                    due = dice.randrange(5)
                    timers.put(key, due)
                    rows.append((due, number, key))
                else:
                    self.assertIs(timers.remove(key), was_set)
                rows.sort()
                self.assertEqual(timers.keys(), [row[2] for row in rows])
                self.assertEqual(timers.first(), (rows[0][0], rows[0][2]) if rows else None)


if __name__ == "__main__":
    unittest.main()
