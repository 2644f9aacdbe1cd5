"""What is handed in is not changed, and nothing is kept from one call to the next."""

import copy
import random
import unittest

from tests.helper import ask, ask_why, bits, made_crowded_organ, made_organ, small_organ

LISTS = ("rank_pipes", "stops", "couplers", "keys")
PLACES = [(rank, pipe) for rank in (0, 1, 16) for pipe in (0, 24, 36, 48, 97)]


class Unchanging(list):
    """A list that fails at any change, so that one made for a while is seen too."""

    def refuse(self, *arguments, **keywords):
        raise AssertionError("a list that was handed in is changed")

    append = clear = extend = insert = pop = remove = reverse = sort = refuse
    __setitem__ = __delitem__ = __iadd__ = __imul__ = refuse


def organs():
    chance = random.Random(6)
    made = [made_organ(chance) for number in range(50)] + [made_crowded_organ(chance) for number in range(50)]
    return made + [small_organ(divisions=0), small_organ(stops=[0, 0, 0, 61, 0]), small_organ(keys=[0, 0, 0, 1])]


def ask_all(organ):
    return [ask(organ)] + [ask_why(organ, rank, pipe) for rank, pipe in PLACES]


class NothingKept(unittest.TestCase):
    def test_every_kind_of_answer_is_among_those_asked_for(self):
        answers = [answer for organ in organs() for answer in ask_all(organ)]
        reasons = [answer for answer in answers if len(answer) == 5]
        self.assertTrue([reason for reason in reasons if reason[3] == 255])
        self.assertTrue([reason for reason in reasons if reason[3] != 255])
        for refusal in (-2, -22, -71):
            self.assertIn([refusal], answers)

    def test_lists_are_the_same_behind_the_call(self):
        for organ in organs():
            with self.subTest(organ=organ):
                ahead = copy.deepcopy(organ)
                ask(organ)
                self.assertEqual(organ, ahead)
                for rank, pipe in PLACES:
                    ask_why(organ, rank, pipe)
                    self.assertEqual(organ, ahead)

    def test_lists_are_not_changed_for_a_while(self):
        for organ in organs():
            with self.subTest(organ=organ):
                ask_all({**organ, **{name: Unchanging(organ[name]) for name in LISTS}})

    def test_the_same_call_twice(self):
        first = [ask_all(organ) for organ in organs()]
        again = [ask_all(organ) for organ in reversed(organs())]
        self.assertEqual(first, list(reversed(again)))
        for organ in organs():
            for rank, pipe in PLACES:
                self.assertEqual(ask_why(organ, rank, pipe), ask_why(organ, rank, pipe))

    def test_a_changed_answer_of_pipes_does_not_come_back(self):
        organ = small_organ(keys=[bits(3), 0, 0, 0])
        ask(organ).append(1)
        ask(organ)[0] = 99
        self.assertEqual(ask(organ), [1, bits(3)] + [0] * 31)
        ask(small_organ(divisions=0)).append(1)
        self.assertEqual(ask(small_organ(divisions=0)), [-22])

    def test_a_changed_answer_of_why_does_not_come_back(self):
        organ = small_organ(couplers=[0, 0, 12], couplers_held=1, keys=[bits(3), 0, 0, 0])
        for pipe, expected in ((3, [0, 0, 3, 255, 3]), (15, [0, 0, 15, 0, 3]), (4, [-2]), (97, [-2])):
            ask_why(organ, 0, pipe).append(1)
            ask_why(organ, 0, pipe)[0] = 99
            self.assertEqual(ask_why(organ, 0, pipe), expected)


if __name__ == "__main__":
    unittest.main()
