"""The heap, as [33] and [41] need it: things made, reached, and moved together."""

import unittest

from plainspeak.errors import NoRoom
from plainspeak.heap import EMPTY, Heap, is_reference


def cells(heap, numbers, behind=EMPTY):
    """A list in the room, with the last number made first."""
    for number in reversed(numbers):
        behind = heap.make("cell", [number, behind])
    return behind


def numbers_of(heap, value):
    found = []
    while value is not EMPTY:
        number, value = heap.held_by(value)
        found.append(number)
    return found


class TestMaking(unittest.TestCase):
    def test_each_sort(self):
        heap = Heap(8)
        cell = heap.make("cell", [1, EMPTY])
        pair = heap.make("pair", [True, cell])
        function = heap.make("function", [17, False, pair, 3])
        self.assertEqual([heap.sort_of(one) for one in [cell, pair, function]], ["cell", "pair", "function"])
        self.assertEqual(heap.held_by(cell), (1, EMPTY))
        self.assertEqual(heap.held_by(pair), (True, cell))
        self.assertEqual(heap.held_by(function), (17, False, pair, 3))
        self.assertEqual((heap.used(), heap.made()), (3, 3))

    def test_a_new_one_is_empty(self):
        heap = Heap(8)
        self.assertEqual((heap.used(), heap.made(), heap.is_full()), (0, 0, False))

    def test_references_are_no_other_values(self):
        heap = Heap(8)
        self.assertTrue(is_reference(heap.make("pair", [1, 2])))
        for value in [0, 1, -5, 2 ** 63, True, False, EMPTY]:
            self.assertFalse(is_reference(value))

    def test_full(self):
        heap = Heap(8)
        for number in range(8):
            self.assertFalse(heap.is_full())
            heap.make("pair", [number, number])
        self.assertTrue(heap.is_full())
        with self.assertRaises(NoRoom):
            heap.make("pair", [8, 8])
        self.assertEqual((heap.used(), heap.made()), (8, 8))

    def test_what_was_handed_in_is_not_kept(self):
        heap = Heap(8)
        held = [1, 2]
        pair = heap.make("pair", held)
        held.append(3)
        self.assertEqual(heap.held_by(pair), (1, 2))

    def test_two_do_not_touch_each_other(self):
        one, other = Heap(8), Heap(8)
        one.make("pair", [1, 2])
        self.assertEqual((other.used(), other.made()), (0, 0))


class TestMoving(unittest.TestCase):
    def test_what_is_no_longer_reached_is_gone(self):
        heap = Heap(20)
        cells(heap, [1, 2, 3])
        kept = cells(heap, [4, 5])
        cells(heap, [6])
        moved = heap.move_together([kept])
        self.assertEqual(heap.used(), 2)
        self.assertEqual(numbers_of(heap, moved[0]), [4, 5])

    def test_made_is_as_it_was(self):
        heap = Heap(20)
        cells(heap, [1, 2, 3])
        heap.move_together([])
        self.assertEqual((heap.used(), heap.made()), (0, 3))
        cells(heap, [1])
        self.assertEqual((heap.used(), heap.made()), (1, 4))

    def test_what_two_hold_in_common_is_kept_once(self):
        heap = Heap(20)
        common = cells(heap, [7, 8])
        one = heap.make("cell", [1, common])
        other = heap.make("pair", [common, common])
        one, other, common = heap.move_together([one, other, common])
        self.assertEqual(heap.used(), 4)
        self.assertEqual(numbers_of(heap, one), [1, 7, 8])
        self.assertEqual(heap.held_by(other), (common, common))
        self.assertEqual(heap.held_by(one)[1], common)

    def test_the_same_reference_several_times(self):
        heap = Heap(20)
        pair = heap.make("pair", [1, 2])
        moved = heap.move_together([pair, pair, pair])
        self.assertEqual(heap.used(), 1)
        self.assertEqual(moved, [moved[0]] * 3)

    def test_other_values_stay(self):
        heap = Heap(20)
        heap.make("pair", [0, 0])
        pair = heap.make("pair", [True, 1])
        moved = heap.move_together([0, pair, 1, True, False, EMPTY, -1])
        self.assertEqual(moved[:1] + moved[2:], [0, 1, True, False, EMPTY, -1])
        self.assertIs(moved[3], True)
        self.assertIs(moved[4], False)
        self.assertEqual(heap.held_by(moved[1]), (True, 1))
        self.assertIs(heap.held_by(moved[1])[0], True)

    def test_what_a_function_keeps(self):
        heap = Heap(20)
        heap.make("pair", [0, 0])
        kept = cells(heap, [1, 2])
        function = heap.make("function", [1, True, 5, kept])
        function = heap.move_together([function])[0]
        self.assertEqual(heap.used(), 3)
        self.assertEqual(heap.sort_of(function), "function")
        self.assertEqual(heap.held_by(function)[:3], (1, True, 5))
        self.assertEqual(numbers_of(heap, heap.held_by(function)[3]), [1, 2])

    def test_all_sorts_within_one_another(self):
        heap = Heap(20)
        for number in range(3):
            heap.make("pair", [number, number])
        inner = heap.make("function", [4, False])
        pair = heap.make("pair", [inner, cells(heap, [1])])
        outer = heap.make("cell", [pair, EMPTY])
        outer = heap.move_together([outer])[0]
        self.assertEqual(heap.used(), 4)
        pair = heap.held_by(outer)[0]
        self.assertEqual([heap.sort_of(one) for one in [outer, pair]], ["cell", "pair"])
        inner, listed = heap.held_by(pair)
        self.assertEqual(heap.held_by(inner), (4, False))
        self.assertEqual(numbers_of(heap, listed), [1])

    def test_nothing_handed_in_is_changed(self):
        heap = Heap(20)
        heap.make("pair", [0, 0])
        values = [heap.make("pair", [1, 2]), 3]
        before = list(values)
        moved = heap.move_together(values)
        moved.append(4)
        self.assertEqual(values, before)

    def test_again_and_again(self):
        heap = Heap(20)
        values = [cells(heap, [1, 2, 3]), heap.make("pair", [5, 6])]
        for _ in range(10):
            heap.make("pair", [0, 0])
            values = heap.move_together(values)
            self.assertEqual(heap.used(), 4)
            self.assertEqual(numbers_of(heap, values[0]), [1, 2, 3])
            self.assertEqual(heap.held_by(values[1]), (5, 6))
        self.assertEqual(heap.made(), 14)

    def test_a_room_of_one_long_list(self):
        heap = Heap(2000)
        listed = cells(heap, list(range(2000)))
        self.assertTrue(heap.is_full())
        listed = heap.move_together([listed])[0]
        self.assertTrue(heap.is_full())
        self.assertEqual(numbers_of(heap, listed), list(range(2000)))
        listed = heap.move_together([heap.held_by(listed)[1]])[0]
        self.assertFalse(heap.is_full())
        self.assertEqual(numbers_of(heap, listed), list(range(1, 2000)))

    def test_lists_nested_as_heads(self):
        heap = Heap(2000)
        listed = EMPTY
        for _ in range(2000):
            listed = heap.make("cell", [listed, EMPTY])
        heap.move_together([listed])
        self.assertEqual(heap.used(), 2000)

    def test_room_is_there_again(self):
        heap = Heap(8)
        for number in range(100):
            if heap.is_full():
                heap.move_together([])
            heap.make("pair", [number, number])
            self.assertLessEqual(heap.used(), 8)
        self.assertEqual(heap.made(), 100)


if __name__ == "__main__":
    unittest.main()
