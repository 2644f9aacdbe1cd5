"""why on ordinary organs: promise 3, and what the document says ahead of it."""

import random
import unittest

from keyspipes.organ import why
from tests.helper import (
    ALL_KEYS, MOST_SHORT_SET, ask_why, bits, each_pipe, made_crowded_organ, made_organ, small_organ, two_divisions,
    why_by_words)


class TheAnswer(unittest.TestCase):
    def test_arguments_stand_in_the_order_told(self):
        plan = ([61, 62], [0, 1, 0, 60, 3], [1, 0, 12], [bits(4), bits(5), 0, 0])
        self.assertEqual(why(2, 1, 1, 2, 1, 7, *plan), [0, 0, 4, 255, 4])
        self.assertEqual(why(2, 1, 1, 1, 1, 20, *plan), [0, 0, 17, 0, 5])
        self.assertEqual(why(2, 1, 1, 1, 1, 7, *plan), [-2])

    def test_names_of_the_arguments(self):
        answer = why(divisions=1, stops_held=1, couplers_held=0, off=0, rank=0, pipe=9, rank_pipes=[61],
                     stops=[0, 0, 0, 60, 0], couplers=[], keys=[bits(9), 0, 0, 0])
        self.assertEqual(answer, [0, 0, 9, 255, 9])

    def test_a_list_of_whole_numbers(self):
        organ = small_organ(couplers=[0, 0, 12], couplers_held=1, keys=[bits(9), 0, 0, 0])
        for pipe, length in ((9, 5), (21, 5), (10, 1)):
            answer = ask_why(organ, 0, pipe)
            self.assertIs(type(answer), list)
            self.assertEqual(len(answer), length)
            self.assertEqual({type(number) for number in answer}, {int})


class HeldThereItself(unittest.TestCase):
    def test_a_key_of_the_stops_own_division(self):
        organ = small_organ(stops=[0, 0, 0, 60, 5], keys=[bits(0, 24, 60), 0, 0, 0])
        for key in (0, 24, 60):
            self.assertEqual(ask_why(organ, 0, key + 5), [0, 0, key, 255, key])

    def test_ahead_of_any_coupler(self):
        organ = two_divisions(couplers=[0, 1, 0, 1, 1, 12], couplers_held=3, keys=[bits(20), bits(8, 20), 0, 0])
        self.assertEqual(ask_why(organ, 1, 20), [0, 1, 20, 255, 20])

    def test_another_division_off_does_not_matter(self):
        organ = two_divisions(off=bits(1), keys=[bits(20), 0, 0, 0])
        self.assertEqual(ask_why(organ, 0, 20), [0, 0, 20, 255, 20])


class ByACoupler(unittest.TestCase):
    def test_from_another_division(self):
        for shift in (-12, 0, 12):
            with self.subTest(shift=shift):
                organ = two_divisions(couplers=[0, 1, shift], couplers_held=1, keys=[bits(20), 0, 0, 0])
                self.assertEqual(ask_why(organ, 1, 20 + shift), [0, 1, 20 + shift, 0, 20])

    def test_from_the_same_division(self):
        for shift in (-12, 12):
            with self.subTest(shift=shift):
                organ = small_organ(stops=[0, 0, 0, 60, 3], couplers=[0, 0, shift], couplers_held=1,
                                    keys=[bits(20), 0, 0, 0])
                self.assertEqual(ask_why(organ, 0, 23 + shift), [0, 0, 20 + shift, 0, 20])
                self.assertEqual(ask_why(organ, 0, 23), [0, 0, 20, 255, 20])

    def test_only_a_coupler_that_is_held(self):
        organ = two_divisions(couplers=[0, 1, 0, 0, 1, 0, 0, 1, 0], couplers_held=bits(2), keys=[bits(20), 0, 0, 0])
        self.assertEqual(ask_why(organ, 1, 20), [0, 1, 20, 2, 20])
        self.assertEqual(ask_why({**organ, "couplers_held": 0}, 1, 20), [-2])

    def test_only_a_coupler_to_the_stops_division(self):
        organ = small_organ(divisions=3, stops=[2, 0, 0, 60, 0], couplers=[0, 1, 0, 1, 0, 0, 0, 2, 0],
                            couplers_held=7, keys=[bits(20), bits(30), 0, 0])
        self.assertEqual(ask_why(organ, 0, 20), [0, 0, 20, 2, 20])
        self.assertEqual(ask_why(organ, 0, 30), [-2])

    def test_only_a_coupler_from_a_division_where_the_key_is_held(self):
        organ = small_organ(divisions=4, stops=[3, 0, 0, 60, 0], couplers=[0, 3, 0, 1, 3, 12, 2, 3, 0],
                            couplers_held=7, keys=[bits(8), bits(20), bits(20), bits(19)])
        self.assertEqual(ask_why(organ, 0, 20), [0, 0, 20, 2, 20])

    def test_the_last_of_32_couplers(self):
        organ = two_divisions(couplers=[0, 1, 0] * 31 + [0, 1, 12], couplers_held=MOST_SHORT_SET,
                              keys=[bits(20), 0, 0, 0])
        self.assertEqual(ask_why(organ, 1, 32), [0, 1, 32, 31, 20])


class TheLeast(unittest.TestCase):
    def test_the_least_stop(self):
        stops = [0, 0, 0, 60, 0, 0, 0, 0, 60, 10, 0, 0, 0, 60, -10]
        organ = small_organ(stops=stops, stops_held=7, keys=[bits(20, 30, 40), 0, 0, 0])
        self.assertEqual(ask_why(organ, 0, 30), [0, 0, 30, 255, 30])
        self.assertEqual(ask_why({**organ, "stops_held": bits(1, 2)}, 0, 30), [0, 1, 20, 255, 20])
        self.assertEqual(ask_why({**organ, "stops_held": bits(2)}, 0, 30), [0, 2, 40, 255, 40])

    def test_the_least_stop_even_where_a_later_one_has_a_lesser_key(self):
        organ = small_organ(stops=[0, 0, 0, 60, -10, 0, 0, 0, 60, 10], stops_held=3, keys=[bits(20, 40), 0, 0, 0])
        self.assertEqual(ask_why(organ, 0, 30), [0, 0, 40, 255, 40])

    def test_the_least_stop_even_where_it_speaks_by_a_coupler(self):
        organ = two_divisions(stops=[1, 0, 0, 60, 0, 0, 0, 0, 60, 0], couplers=[0, 1, 0], couplers_held=1,
                              keys=[bits(20), 0, 0, 0])
        self.assertEqual(ask_why(organ, 0, 20), [0, 0, 20, 0, 20])

    def test_the_least_stop_by_which_it_speaks(self):
        stops = [0, 1, 0, 60, 0, 1, 0, 0, 60, 0, 0, 0, 21, 60, 0, 0, 0, 0, 19, 0, 0, 0, 0, 60, 1, 0, 0, 20, 20, 0]
        organ = small_organ(divisions=2, rank_pipes=[61, 61], stops=stops, stops_held=63, keys=[bits(20), 0, 0, 0])
        self.assertEqual(ask_why(organ, 0, 20), [0, 5, 20, 255, 20])

    def test_the_last_of_64_stops(self):
        organ = small_organ(stops=[0, 0, 0, 60, 0] * 63 + [0, 0, 0, 60, 7], stops_held=2 ** 64 - 1,
                            keys=[bits(1), 0, 0, 0])
        self.assertEqual(ask_why(organ, 0, 8), [0, 63, 1, 255, 1])

    def test_the_key_that_sounds_not_the_least_that_is_held(self):
        organ = small_organ(couplers=[0, 0, 12, 0, 0, -12], couplers_held=3, keys=[bits(2, 14, 26, 38), 0, 0, 0])
        self.assertEqual(ask_why(organ, 0, 26), [0, 0, 26, 255, 26])
        self.assertEqual(ask_why({**organ, "off": 1}, 0, 26), [0, 0, 26, 0, 14])

    def test_the_least_coupler_not_the_least_key_that_is_held(self):
        organ = two_divisions(couplers=[0, 1, -12, 0, 1, 0, 0, 1, 12], couplers_held=7,
                              keys=[bits(8, 20, 32), 0, 0, 0])
        self.assertEqual(ask_why(organ, 1, 20), [0, 1, 20, 0, 32])
        self.assertEqual(ask_why({**organ, "couplers_held": bits(1, 2)}, 1, 20), [0, 1, 20, 1, 20])
        self.assertEqual(ask_why({**organ, "couplers_held": bits(2)}, 1, 20), [0, 1, 20, 2, 8])

    def test_the_same_coupler_twice(self):
        organ = two_divisions(couplers=[0, 1, 0] * 3, couplers_held=bits(1, 2), keys=[bits(20), 0, 0, 0])
        self.assertEqual(ask_why(organ, 1, 20), [0, 1, 20, 1, 20])


class Silent(unittest.TestCase):
    def test_a_rank_that_there_is_not(self):
        for ranks in (1, 2, 15, 16):
            organ = small_organ(rank_pipes=[61] * ranks, stops=[0, ranks - 1, 0, 60, 0], keys=[ALL_KEYS, 0, 0, 0])
            self.assertEqual(ask_why(organ, ranks - 1, 0), [0, 0, 0, 255, 0])
            for rank in (ranks, ranks + 1, 255, 256, 2 ** 31, MOST_SHORT_SET):
                with self.subTest(ranks=ranks, rank=rank):
                    self.assertEqual(ask_why(organ, rank, 0), [-2])

    def test_a_pipe_that_the_rank_has_not(self):
        for count in (1, 2, 60):
            organ = small_organ(rank_pipes=[count, 97], keys=[ALL_KEYS, 0, 0, 0])
            self.assertEqual(ask_why(organ, 0, count - 1), [0, 0, count - 1, 255, count - 1])
            for pipe in (count, count + 1, 97, 98, 255, 256, 2 ** 31, MOST_SHORT_SET):
                with self.subTest(count=count, pipe=pipe):
                    self.assertEqual(ask_why(organ, 0, pipe), [-2])

    def test_rank_and_pipe_far_beyond(self):
        organ = small_organ(keys=[ALL_KEYS, 0, 0, 0])
        self.assertEqual(ask_why(organ, MOST_SHORT_SET, MOST_SHORT_SET), [-2])

    def test_a_pipe_that_does_not_speak(self):
        organ = small_organ(rank_pipes=[97, 97], stops=[0, 0, 10, 20, 0, 0, 0, 0, 60, 50], stops_held=1,
                            keys=[bits(9, 15, 21), 0, 0, 0])
        self.assertEqual(ask_why(organ, 0, 15), [0, 0, 15, 255, 15])
        for rank, pipe in ((0, 0), (0, 9), (0, 16), (0, 21), (0, 65), (0, 96), (1, 15)):
            with self.subTest(rank=rank, pipe=pipe):
                self.assertEqual(ask_why(organ, rank, pipe), [-2])

    def test_nothing_held(self):
        for pipe in (0, 96):
            self.assertEqual(ask_why(small_organ(), 0, pipe), [-2])

    def test_no_stop_held(self):
        self.assertEqual(ask_why(small_organ(stops_held=0, keys=[ALL_KEYS, 0, 0, 0]), 0, 20), [-2])

    def test_a_division_that_is_off(self):
        organ = two_divisions(off=bits(0), keys=[bits(20), bits(20), 0, 0])
        self.assertEqual(ask_why(organ, 0, 20), [-2])
        self.assertEqual(ask_why(organ, 1, 20), [0, 1, 20, 255, 20])


class AsTheWordsSay(unittest.TestCase):
    def assert_as_the_words_say(self, organ, kinds):
        for rank, pipe in each_pipe(organ):
            with self.subTest(organ=organ, rank=rank, pipe=pipe):
                answer = ask_why(organ, rank, pipe)
                self.assertEqual(answer, why_by_words(organ, rank, pipe))
                kinds["silent" if answer == [-2] else "itself" if answer[3] == 255 else "coupled"] += 1

    def test_made_organs(self):
        chance = random.Random(7)
        kinds = {"silent": 0, "itself": 0, "coupled": 0}
        for number in range(25):
            self.assert_as_the_words_say(made_organ(chance), kinds)
        for number in range(75):
            self.assert_as_the_words_say(made_crowded_organ(chance), kinds)
        for kind in kinds:
            self.assertGreater(kinds[kind], 500, kinds)


if __name__ == "__main__":
    unittest.main()
