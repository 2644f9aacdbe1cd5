"""What is handed in is not changed, and nothing is kept from one call to the next."""

import copy
import random
import unittest

from tests.helper import ask, bits, made_organ, small_organ

LISTS = ("rank_pipes", "stops", "couplers", "keys")


class Unchanging(list):
    """A list that fails at any change, so that one made for a while is seen too."""

    def refuse(self, *arguments, **keywords):
        raise AssertionError("a list that was handed in is changed")

    append = clear = extend = insert = pop = remove = reverse = sort = refuse
    __setitem__ = __delitem__ = __iadd__ = __imul__ = refuse


def organs():
    chance = random.Random(6)
    made = [made_organ(chance) for number in range(50)]
    return made + [small_organ(divisions=0), small_organ(stops=[0, 0, 0, 61, 0]), small_organ(keys=[0, 0, 0, 1])]


class NothingKept(unittest.TestCase):
    def test_lists_are_the_same_behind_the_call(self):
        for organ in organs():
            with self.subTest(organ=organ):
                ahead = copy.deepcopy(organ)
                ask(organ)
                self.assertEqual(organ, ahead)

    def test_lists_are_not_changed_for_a_while(self):
        for organ in organs():
            with self.subTest(organ=organ):
                ask({**organ, **{name: Unchanging(organ[name]) for name in LISTS}})

    def test_the_same_call_twice(self):
        first = [ask(organ) for organ in organs()]
        again = [ask(organ) for organ in reversed(organs())]
        self.assertEqual(first, list(reversed(again)))

    def test_a_changed_answer_does_not_come_back(self):
        organ = small_organ(keys=[bits(3), 0, 0, 0])
        ask(organ).append(1)
        ask(organ)[0] = 99
        self.assertEqual(ask(organ), [1, bits(3)] + [0] * 31)
        ask(small_organ(divisions=0)).append(1)
        self.assertEqual(ask(small_organ(divisions=0)), [-22])


if __name__ == "__main__":
    unittest.main()
