"""pipes on ordinary organs: promise 2, and what the document says ahead of it."""

import random
import unittest

from keyspipes.organ import pipes
from tests.helper import answer_by_words, ask, bits, made_organ, pipes_answer, small_organ, two_divisions


class TheAnswer(unittest.TestCase):
    def test_arguments_stand_in_the_order_told(self):
        answer = pipes(2, 1, 1, 2, [61], [0, 0, 0, 60, 3], [1, 0, 12], [bits(4), bits(5), 0, 0])
        self.assertEqual(answer, [2, bits(7, 20)] + [0] * 31)

    def test_names_of_the_arguments(self):
        answer = pipes(divisions=1, stops_held=1, couplers_held=0, off=0, rank_pipes=[61],
                       stops=[0, 0, 0, 60, 0], couplers=[], keys=[1, 0, 0, 0])
        self.assertEqual(answer, [1, 1] + [0] * 31)

    def test_a_list_of_whole_numbers(self):
        answer = ask(small_organ(keys=[bits(0, 9), 0, 0, 0]))
        self.assertIs(type(answer), list)
        self.assertEqual(len(answer), 33)
        self.assertEqual({type(number) for number in answer}, {int})

    def test_several_keys_of_one_stop(self):
        answer = ask(small_organ(keys=[bits(0, 7, 24, 60), 0, 0, 0]))
        self.assertEqual(answer, [4, bits(0, 7, 24, 60)] + [0] * 31)

    def test_nothing_held(self):
        self.assertEqual(ask(small_organ()), [0] * 33)

    def test_no_stop_held_no_pipe(self):
        self.assertEqual(ask(small_organ(stops_held=0, keys=[bits(1, 2), 0, 0, 0])), [0] * 33)

    def test_pipes_from_64_on_are_in_the_second_number(self):
        answer = ask(small_organ(stops=[0, 0, 0, 60, 36], keys=[bits(27, 28, 29, 60), 0, 0, 0]))
        self.assertEqual(answer, [4, bits(63), bits(0, 1, 32)] + [0] * 30)

    def test_two_numbers_for_each_of_16_ranks(self):
        stops = sum([[0, rank, 0, 60, 50 + rank] for rank in range(16)], [])
        organ = small_organ(rank_pipes=[97] * 16, stops=stops, stops_held=2 ** 16 - 1, keys=[bits(0, 10), 0, 0, 0])
        speaking = {rank: [50 + rank, 60 + rank] for rank in range(16)}
        self.assertEqual(ask(organ), pipes_answer(speaking))
        self.assertEqual(ask(organ)[0], 32)

    def test_0_for_ranks_that_there_are_not(self):
        stops = [0, 2, 0, 60, 0, 0, 0, 0, 60, 64]
        organ = small_organ(rank_pipes=[97, 61, 61], stops=stops, stops_held=3, keys=[bits(5), 0, 0, 0])
        self.assertEqual(ask(organ), [2, 0, bits(5), 0, 0, bits(5), 0] + [0] * 26)


class Stops(unittest.TestCase):
    def test_only_stops_that_are_held(self):
        stops = [0, 0, 0, 60, 0, 0, 0, 0, 60, 10, 0, 0, 0, 60, 20]
        organ = small_organ(stops=stops, stops_held=bits(0, 2), keys=[bits(3), 0, 0, 0])
        self.assertEqual(ask(organ), pipes_answer({0: [3, 23]}))

    def test_only_keys_from_low_to_high(self):
        organ = small_organ(stops=[0, 0, 10, 20, 5], keys=[bits(9, 10, 15, 20, 21), 0, 0, 0])
        self.assertEqual(ask(organ), pipes_answer({0: [15, 20, 25]}))

    def test_only_keys_of_the_stops_own_division(self):
        organ = two_divisions(keys=[bits(1), bits(2), 0, 0])
        self.assertEqual(ask(organ), pipes_answer({0: [1], 1: [2]}))

    def test_a_rank_that_two_divisions_share(self):
        organ = two_divisions(stops=[0, 0, 0, 60, 0, 1, 0, 0, 60, 12], keys=[bits(1), bits(2), 0, 0])
        self.assertEqual(ask(organ), pipes_answer({0: [1, 14]}))

    def test_the_last_of_64_stops(self):
        stops = [0, 0, 0, 60, 0] * 63 + [0, 0, 0, 60, 7]
        organ = small_organ(stops=stops, stops_held=bits(63), keys=[bits(1), 0, 0, 0])
        self.assertEqual(ask(organ), pipes_answer({0: [8]}))

    def test_four_divisions(self):
        stops = sum([[division, division, 0, 60, division] for division in range(4)], [])
        organ = small_organ(divisions=4, rank_pipes=[61, 62, 63, 64], stops=stops, stops_held=15,
                            keys=[bits(60), bits(60), bits(60), bits(60)])
        self.assertEqual(ask(organ), pipes_answer({0: [60], 1: [61], 2: [62], 3: [63]}))


class Couplers(unittest.TestCase):
    def test_from_one_division_to_another(self):
        for shift in (-12, 0, 12):
            with self.subTest(shift=shift):
                organ = two_divisions(couplers=[0, 1, shift], couplers_held=1, keys=[bits(20), bits(40), 0, 0])
                self.assertEqual(ask(organ), pipes_answer({0: [20], 1: [20 + shift, 40]}))

    def test_to_itself(self):
        for shift in (-12, 12):
            with self.subTest(shift=shift):
                organ = small_organ(couplers=[0, 0, shift], couplers_held=1, keys=[bits(20), 0, 0, 0])
                self.assertEqual(ask(organ), pipes_answer({0: [20, 20 + shift]}))

    def test_only_couplers_that_are_held(self):
        couplers = [0, 1, 0, 0, 1, 12, 0, 1, -12]
        organ = two_divisions(couplers=couplers, couplers_held=bits(1), keys=[bits(20), 0, 0, 0])
        self.assertEqual(ask(organ), pipes_answer({0: [20], 1: [32]}))

    def test_the_last_of_32_couplers(self):
        organ = two_divisions(couplers=[0, 1, 0] * 31 + [0, 1, 12], couplers_held=bits(31), keys=[bits(20), 0, 0, 0])
        self.assertEqual(ask(organ), pipes_answer({0: [20], 1: [32]}))

    def test_several_couplers_to_one_division(self):
        organ = two_divisions(couplers=[0, 1, 0, 0, 1, 12, 1, 1, -12], couplers_held=7, keys=[bits(20), bits(30), 0, 0])
        self.assertEqual(ask(organ), pipes_answer({0: [20], 1: [18, 20, 30, 32]}))

    def test_low_and_high_are_asked_of_the_key_that_sounds(self):
        organ = two_divisions(stops=[0, 0, 0, 60, 0, 1, 1, 30, 35, 0], couplers=[0, 1, 12], couplers_held=1,
                              keys=[bits(17, 18, 23, 24), 0, 0, 0])
        self.assertEqual(ask(organ), pipes_answer({0: [17, 18, 23, 24], 1: [30, 35]}))


class Off(unittest.TestCase):
    def test_keys_of_a_division_that_is_off_do_not_sound_there(self):
        organ = two_divisions(off=bits(0), keys=[bits(20), bits(30), 0, 0])
        self.assertEqual(ask(organ), pipes_answer({1: [30]}))

    def test_the_last_division_off(self):
        organ = small_organ(divisions=4, stops=[3, 0, 0, 60, 0], off=bits(3), keys=[0, 0, 0, bits(20)])
        self.assertEqual(ask(organ), [0] * 33)


class AsTheWordsSay(unittest.TestCase):
    def test_made_organs(self):
        chance = random.Random(2)
        spoken = 0
        for number in range(400):
            organ = made_organ(chance)
            with self.subTest(organ=organ):
                answer = ask(organ)
                self.assertEqual(answer, answer_by_words(organ))
                spoken += answer[0]
        self.assertGreater(spoken, 0)


if __name__ == "__main__":
    unittest.main()
