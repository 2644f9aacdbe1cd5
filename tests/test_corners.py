"""pipes at the corners that the document names."""

import unittest

from tests.helper import ALL_KEYS, ask, bits, pipes_answer, small_organ, two_divisions


class Corners(unittest.TestCase):
    def test_two_stops_of_one_rank_at_the_same_pipe(self):
        stops = [0, 0, 0, 60, 0, 0, 0, 0, 60, 12]
        organ = small_organ(stops=stops, stops_held=3, keys=[bits(20, 32), 0, 0, 0])
        self.assertEqual(ask(organ), pipes_answer({0: [20, 32, 44]}))

    def test_the_same_stop_twice(self):
        organ = small_organ(stops=[0, 0, 0, 60, 0] * 2, stops_held=3, keys=[bits(20), 0, 0, 0])
        self.assertEqual(ask(organ), pipes_answer({0: [20]}))

    def test_a_coupler_out_of_the_keys_range_above(self):
        organ = two_divisions(stops=[0, 0, 0, 60, 0, 1, 1, 0, 60, -12], couplers=[0, 1, 12], couplers_held=1,
                              keys=[bits(48, 49, 60), 0, 0, 0])
        self.assertEqual(ask(organ), pipes_answer({0: [48, 49, 60], 1: [48]}))

    def test_a_coupler_out_of_the_keys_range_below(self):
        organ = two_divisions(stops=[0, 0, 0, 60, 0, 1, 1, 0, 60, 12], couplers=[0, 1, -12], couplers_held=1,
                              keys=[bits(0, 11, 12), 0, 0, 0])
        self.assertEqual(ask(organ), pipes_answer({0: [0, 11, 12], 1: [12]}))

    def test_a_division_off_and_coupled_to_itself_by_an_octave(self):
        for shift in (-12, 12):
            with self.subTest(shift=shift):
                organ = small_organ(off=1, couplers=[0, 0, shift], couplers_held=1, keys=[bits(20), 0, 0, 0])
                self.assertEqual(ask(organ), pipes_answer({0: [20 + shift]}))

    def test_a_coupler_from_a_division_that_is_off(self):
        organ = two_divisions(off=bits(0), couplers=[0, 1, 0], couplers_held=1, keys=[bits(20), 0, 0, 0])
        self.assertEqual(ask(organ), pipes_answer({1: [20]}))

    def test_a_coupler_to_a_division_that_is_off(self):
        organ = two_divisions(off=bits(1), couplers=[0, 1, 0], couplers_held=1, keys=[bits(20), bits(30), 0, 0])
        self.assertEqual(ask(organ), pipes_answer({0: [20], 1: [20]}))

    def test_what_only_sounds_is_not_coupled_on(self):
        stops = [0, 0, 0, 60, 0, 1, 1, 0, 60, 0, 2, 2, 0, 60, 0]
        for couplers in ([0, 1, 0, 1, 2, 0], [1, 2, 0, 0, 1, 0]):
            with self.subTest(couplers=couplers):
                organ = small_organ(divisions=3, rank_pipes=[61] * 3, stops=stops, stops_held=7,
                                    couplers=couplers, couplers_held=3, keys=[bits(20), 0, 0, 0])
                self.assertEqual(ask(organ), pipes_answer({0: [20], 1: [20]}))

    def test_an_octave_is_not_coupled_on_to_the_next(self):
        organ = small_organ(couplers=[0, 0, 12, 0, 0, 12, 0, 0, -12], couplers_held=7, keys=[bits(24), 0, 0, 0])
        self.assertEqual(ask(organ), pipes_answer({0: [12, 24, 36]}))

    def test_a_shift_that_leads_past_the_last_pipe(self):
        organ = small_organ(rank_pipes=[61], stops=[0, 0, 0, 60, 12], keys=[bits(47, 48, 49, 60), 0, 0, 0])
        self.assertEqual(ask(organ), pipes_answer({0: [59, 60]}))

    def test_a_shift_that_leads_below_the_first_pipe(self):
        organ = small_organ(stops=[0, 0, 0, 60, -12], keys=[bits(0, 11, 12, 13), 0, 0, 0])
        self.assertEqual(ask(organ), pipes_answer({0: [0, 1]}))

    def test_the_least_and_the_most_shift(self):
        for shift, pipe in ((-60, 0), (96, 96)):
            with self.subTest(shift=shift):
                organ = small_organ(stops=[0, 0, 0, 60, shift], keys=[ALL_KEYS, 0, 0, 0])
                self.assertEqual(ask(organ), pipes_answer({0: [pipe]}))

    def test_97_pipes(self):
        stops = [0, 0, 0, 60, 0, 0, 0, 0, 60, 36]
        organ = small_organ(stops=stops, stops_held=3, keys=[ALL_KEYS, 0, 0, 0])
        self.assertEqual(ask(organ), [97, 2 ** 64 - 1, 2 ** 33 - 1] + [0] * 30)

    def test_ranks_of_64_and_65_pipes(self):
        for count, rest in ((64, []), (65, [64])):
            with self.subTest(count=count):
                organ = small_organ(rank_pipes=[count], stops=[0, 0, 0, 60, 4], keys=[bits(59, 60), 0, 0, 0])
                self.assertEqual(ask(organ), pipes_answer({0: [63] + rest}))

    def test_one_pipe(self):
        organ = small_organ(rank_pipes=[1], keys=[ALL_KEYS, 0, 0, 0])
        self.assertEqual(ask(organ), pipes_answer({0: [0]}))

    def test_low_and_high_the_same(self):
        for key in (0, 30, 60):
            with self.subTest(key=key):
                organ = small_organ(stops=[0, 0, key, key, 0], keys=[ALL_KEYS, 0, 0, 0])
                self.assertEqual(ask(organ), pipes_answer({0: [key]}))

    def test_all_keys(self):
        organ = small_organ(keys=[ALL_KEYS, 0, 0, 0])
        self.assertEqual(ask(organ), [61, ALL_KEYS] + [0] * 31)

    def test_all_keys_coupled_by_an_octave(self):
        for shift, keys in ((12, range(12, 61)), (-12, range(49))):
            with self.subTest(shift=shift):
                organ = small_organ(off=1, couplers=[0, 0, shift], couplers_held=1, keys=[ALL_KEYS, 0, 0, 0])
                self.assertEqual(ask(organ), pipes_answer({0: keys}))

    def test_all_that_an_organ_can_have(self):
        stops = sum([[number % 4, number % 16, 0, 60, 36 * (number // 32)] for number in range(64)], [])
        organ = small_organ(divisions=4, rank_pipes=[97] * 16, stops=stops, stops_held=2 ** 64 - 1,
                            couplers=[0, 1, 12] * 32, couplers_held=2 ** 32 - 1, keys=[ALL_KEYS] * 4)
        self.assertEqual(ask(organ), pipes_answer({rank: range(97) for rank in range(16)}))


if __name__ == "__main__":
    unittest.main()
