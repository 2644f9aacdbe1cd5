"""why at the corners that the document names."""

import unittest

from tests.helper import ALL_KEYS, ask_why, bits, small_organ, two_divisions


class WhyAtTheCorners(unittest.TestCase):
    def test_two_stops_of_one_rank_at_the_same_pipe(self):
        stops = [0, 0, 0, 60, 12, 0, 0, 0, 60, 0]
        organ = small_organ(stops=stops, stops_held=3, keys=[bits(20, 32), 0, 0, 0])
        self.assertEqual(ask_why(organ, 0, 32), [0, 0, 20, 255, 20])
        self.assertEqual(ask_why(organ, 0, 20), [0, 1, 20, 255, 20])
        self.assertEqual(ask_why(organ, 0, 44), [0, 0, 32, 255, 32])

    def test_the_same_stop_twice(self):
        organ = small_organ(stops=[0, 0, 0, 60, 0] * 2, stops_held=3, keys=[bits(20), 0, 0, 0])
        self.assertEqual(ask_why(organ, 0, 20), [0, 0, 20, 255, 20])

    def test_a_coupler_out_of_the_keys_range_above(self):
        organ = two_divisions(stops=[0, 0, 0, 60, 0, 1, 1, 0, 60, 12], couplers=[0, 1, 12], couplers_held=1,
                              keys=[bits(48, 49, 60), 0, 0, 0])
        self.assertEqual(ask_why(organ, 1, 72), [0, 1, 60, 0, 48])
        for pipe in (73, 84):
            self.assertEqual(ask_why(organ, 1, pipe), [-2])

    def test_a_coupler_out_of_the_keys_range_below(self):
        organ = two_divisions(stops=[0, 0, 0, 60, 0, 1, 1, 0, 60, 12], couplers=[0, 1, -12], couplers_held=1,
                              keys=[bits(0, 11, 12), 0, 0, 0])
        self.assertEqual(ask_why(organ, 1, 12), [0, 1, 0, 0, 12])
        for pipe in (0, 11):
            self.assertEqual(ask_why(organ, 1, pipe), [-2])

    def test_a_coupler_that_would_start_out_of_the_keys_range(self):
        couplers = [0, 1, 12, 0, 1, -12, 0, 1, 0]
        organ = two_divisions(couplers=couplers, couplers_held=7, keys=[bits(0, 11, 49, 60), 0, 0, 0])
        for key in (0, 11, 49, 60):
            with self.subTest(key=key):
                self.assertEqual(ask_why(organ, 1, key), [0, 1, key, 2, key])

    def test_a_division_off_and_coupled_to_itself_by_an_octave(self):
        for shift in (-12, 12):
            with self.subTest(shift=shift):
                organ = small_organ(off=1, couplers=[0, 0, shift], couplers_held=1, keys=[bits(20), 0, 0, 0])
                self.assertEqual(ask_why(organ, 0, 20 + shift), [0, 0, 20 + shift, 0, 20])
                self.assertEqual(ask_why(organ, 0, 20), [-2])

    def test_a_key_held_and_coupled_on_a_division_that_is_off(self):
        organ = small_organ(off=1, couplers=[0, 0, 12], couplers_held=1, keys=[bits(20, 32), 0, 0, 0])
        self.assertEqual(ask_why(organ, 0, 32), [0, 0, 32, 0, 20])
        self.assertEqual(ask_why({**organ, "off": 0}, 0, 32), [0, 0, 32, 255, 32])

    def test_a_key_held_on_a_division_that_is_off_and_coupled_from_there(self):
        organ = two_divisions(off=bits(0), couplers=[0, 1, 0], couplers_held=1, keys=[bits(20), 0, 0, 0])
        self.assertEqual(ask_why(organ, 1, 20), [0, 1, 20, 0, 20])
        self.assertEqual(ask_why(organ, 0, 20), [-2])

    def test_a_coupler_to_a_division_that_is_off(self):
        organ = two_divisions(off=bits(1), couplers=[0, 1, 0], couplers_held=1, keys=[bits(20), bits(20, 30), 0, 0])
        self.assertEqual(ask_why(organ, 1, 20), [0, 1, 20, 0, 20])
        self.assertEqual(ask_why(organ, 1, 30), [-2])

    def test_what_only_sounds_is_not_coupled_on(self):
        stops = [0, 0, 0, 60, 0, 1, 1, 0, 60, 0, 2, 2, 0, 60, 0]
        for couplers, first in (([0, 1, 0, 1, 2, 0], 0), ([1, 2, 0, 0, 1, 0], 1)):
            with self.subTest(couplers=couplers):
                organ = small_organ(divisions=3, rank_pipes=[61] * 3, stops=stops, stops_held=7,
                                    couplers=couplers, couplers_held=3, keys=[bits(20), 0, 0, 0])
                self.assertEqual(ask_why(organ, 1, 20), [0, 1, 20, first, 20])
                self.assertEqual(ask_why(organ, 2, 20), [-2])

    def test_a_shift_that_leads_past_the_last_pipe(self):
        organ = small_organ(rank_pipes=[61], stops=[0, 0, 0, 60, 12], keys=[ALL_KEYS, 0, 0, 0])
        self.assertEqual(ask_why(organ, 0, 60), [0, 0, 48, 255, 48])
        for pipe in (61, 72):
            self.assertEqual(ask_why(organ, 0, pipe), [-2])

    def test_a_shift_that_leads_below_the_first_pipe(self):
        organ = small_organ(stops=[0, 0, 0, 60, -12], keys=[bits(0, 11, 12, 60), 0, 0, 0])
        self.assertEqual(ask_why(organ, 0, 0), [0, 0, 12, 255, 12])
        self.assertEqual(ask_why(organ, 0, 48), [0, 0, 60, 255, 60])
        for pipe in (49, 60):
            self.assertEqual(ask_why(organ, 0, pipe), [-2])

    def test_the_least_and_the_most_shift(self):
        for shift, pipe, key in ((-60, 0, 60), (96, 96, 0)):
            with self.subTest(shift=shift):
                organ = small_organ(stops=[0, 0, 0, 60, shift], keys=[ALL_KEYS, 0, 0, 0])
                self.assertEqual(ask_why(organ, 0, pipe), [0, 0, key, 255, key])
                for other in (1, 60, 95):
                    self.assertEqual(ask_why(organ, 0, other), [-2])

    def test_97_pipes(self):
        stops = [0, 0, 0, 60, 0, 0, 0, 0, 60, 36]
        organ = small_organ(stops=stops, stops_held=3, keys=[ALL_KEYS, 0, 0, 0])
        for pipe in range(61):
            self.assertEqual(ask_why(organ, 0, pipe), [0, 0, pipe, 255, pipe])
        for pipe in range(61, 97):
            self.assertEqual(ask_why(organ, 0, pipe), [0, 1, pipe - 36, 255, pipe - 36])
        self.assertEqual(ask_why(organ, 0, 97), [-2])

    def test_one_pipe(self):
        organ = small_organ(rank_pipes=[1], keys=[ALL_KEYS, 0, 0, 0])
        self.assertEqual(ask_why(organ, 0, 0), [0, 0, 0, 255, 0])
        self.assertEqual(ask_why(organ, 0, 1), [-2])

    def test_low_and_high_the_same(self):
        for key in (0, 30, 60):
            organ = small_organ(stops=[0, 0, key, key, 7], keys=[ALL_KEYS, 0, 0, 0])
            for pipe in range(97):
                with self.subTest(key=key, pipe=pipe):
                    self.assertEqual(ask_why(organ, 0, pipe), [0, 0, key, 255, key] if pipe == key + 7 else [-2])

    def test_all_keys(self):
        organ = small_organ(keys=[ALL_KEYS, 0, 0, 0])
        for key in range(61):
            self.assertEqual(ask_why(organ, 0, key), [0, 0, key, 255, key])
        self.assertEqual(ask_why(organ, 0, 61), [-2])

    def test_all_keys_coupled_by_an_octave(self):
        organ = small_organ(off=1, couplers=[0, 0, 12, 0, 0, -12], couplers_held=3, keys=[ALL_KEYS, 0, 0, 0])
        for key in range(12):
            self.assertEqual(ask_why(organ, 0, key), [0, 0, key, 1, key + 12])
        for key in range(12, 61):
            self.assertEqual(ask_why(organ, 0, key), [0, 0, key, 0, key - 12])

    def test_all_that_an_organ_can_have(self):
        stops = sum([[number % 4, number % 16, 0, 60, 36 * (number // 32)] for number in range(64)], [])
        organ = small_organ(divisions=4, rank_pipes=[97] * 16, stops=stops, stops_held=2 ** 64 - 1, off=15,
                            couplers=[3, 0, 12, 0, 1, 0, 1, 2, 0, 2, 3, 0] * 8, couplers_held=2 ** 32 - 1,
                            keys=[ALL_KEYS] * 4)
        self.assertEqual(ask_why(organ, 15, 60), [0, 15, 60, 3, 60])
        self.assertEqual(ask_why(organ, 15, 96), [0, 47, 60, 3, 60])
        self.assertEqual(ask_why(organ, 4, 12), [0, 4, 12, 0, 0])
        self.assertEqual(ask_why(organ, 4, 11), [-2])


if __name__ == "__main__":
    unittest.main()
