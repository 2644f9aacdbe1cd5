"""The refusals of both calls: promise 1, at both ends of each range that a plan has."""

import unittest

from tests.helper import ALL_KEYS, MOST_SET, MOST_SHORT_SET, ask, ask_why, bits, small_organ, two_divisions


# A rank and a pipe that there may be, and some that there can't be, so that -2 is due too.
PLACES = ((0, 0), (0, 97), (16, 0), (MOST_SHORT_SET, MOST_SHORT_SET))


class Refusals(unittest.TestCase):
    def assert_refused(self, refusal, organ):
        with self.subTest(organ=organ):
            self.assertEqual(ask(organ), [refusal])
            for rank, pipe in PLACES:
                self.assertEqual(ask_why(organ, rank, pipe), [refusal])

    def assert_taken(self, organ):
        with self.subTest(organ=organ):
            answer = ask(organ)
            self.assertEqual(len(answer), 33)
            self.assertGreaterEqual(answer[0], 0)
            speaks = answer[1] % 2 == 1
            self.assertEqual(ask_why(organ, 0, 0)[0], 0 if speaks else -2)
            for rank, pipe in PLACES[1:]:
                self.assertEqual(ask_why(organ, rank, pipe), [-2])


class NoPlan(Refusals):
    def test_divisions_1_to_4(self):
        for divisions in (0, 5, 6, 255):
            self.assert_refused(-22, small_organ(divisions=divisions))
        for divisions in (1, 2, 3, 4):
            self.assert_taken(small_organ(divisions=divisions))

    def test_ranks_1_to_16(self):
        self.assert_refused(-22, small_organ(rank_pipes=[]))
        for ranks in (17, 18, 20):
            self.assert_refused(-22, small_organ(rank_pipes=[61] * ranks))
        for ranks in (1, 2, 15, 16):
            self.assert_taken(small_organ(rank_pipes=[61] * ranks))

    def test_pipes_of_a_rank_1_to_97(self):
        for count in (0, 98, 99, 255):
            self.assert_refused(-22, small_organ(rank_pipes=[count]))
            self.assert_refused(-22, small_organ(rank_pipes=[61, count]))
            self.assert_refused(-22, small_organ(rank_pipes=[count, 61]))
        for count in (1, 2, 96, 97):
            self.assert_taken(small_organ(rank_pipes=[count]))

    def test_stops_1_to_64(self):
        self.assert_refused(-22, small_organ(stops=[], stops_held=0))
        for count in (65, 66, 70):
            self.assert_refused(-22, small_organ(stops=[0, 0, 0, 60, 0] * count))
        for count in (1, 2, 63, 64):
            self.assert_taken(small_organ(stops=[0, 0, 0, 60, 0] * count))

    def test_couplers_0_to_32(self):
        for count in (33, 34, 36):
            self.assert_refused(-22, small_organ(couplers=[0, 0, 12] * count))
        for count in (0, 1, 31, 32):
            self.assert_taken(small_organ(couplers=[0, 0, 12] * count))

    def test_a_stop_or_a_coupler_that_is_not_whole(self):
        for length in (1, 4, 6, 9):
            self.assert_refused(-22, small_organ(stops=([0, 0, 0, 60, 0] * 2)[:length]))
        for length in (1, 2, 4, 5):
            self.assert_refused(-22, small_organ(couplers=([0, 0, 12] * 2)[:length]))

    def test_division_of_a_stop(self):
        for divisions in (1, 2, 3, 4):
            for division in (divisions, divisions + 1, 255):
                self.assert_refused(-22, small_organ(divisions=divisions, stops=[division, 0, 0, 60, 0]))
            self.assert_taken(small_organ(divisions=divisions, stops=[0, 0, 0, 60, 0]))
            self.assert_taken(small_organ(divisions=divisions, stops=[divisions - 1, 0, 0, 60, 0]))

    def test_rank_of_a_stop(self):
        for ranks in (1, 2, 15, 16):
            for rank in (ranks, ranks + 1, 255):
                self.assert_refused(-22, small_organ(rank_pipes=[61] * ranks, stops=[0, rank, 0, 60, 0]))
            self.assert_taken(small_organ(rank_pipes=[61] * ranks, stops=[0, 0, 0, 60, 0]))
            self.assert_taken(small_organ(rank_pipes=[61] * ranks, stops=[0, ranks - 1, 0, 60, 0]))

    def test_low_and_high_of_a_stop(self):
        for low, high in ((1, 0), (60, 59), (31, 30), (0, 61), (60, 61), (61, 61), (61, 60), (0, 255), (255, 255)):
            self.assert_refused(-22, small_organ(stops=[0, 0, low, high, 0]))
        for low, high in ((0, 0), (0, 60), (60, 60), (30, 31), (59, 60)):
            self.assert_taken(small_organ(stops=[0, 0, low, high, 0]))

    def test_shift_of_a_stop(self):
        for shift in (-128, -62, -61, 97, 98, 127):
            self.assert_refused(-22, small_organ(stops=[0, 0, 0, 60, shift]))
        for shift in (-60, -59, -1, 0, 1, 95, 96):
            self.assert_taken(small_organ(stops=[0, 0, 0, 60, shift]))

    def test_divisions_of_a_coupler(self):
        for divisions in (1, 2, 3, 4):
            last = divisions - 1
            for division in (divisions, divisions + 1, 255):
                self.assert_refused(-22, small_organ(divisions=divisions, couplers=[division, 0, 12]))
                self.assert_refused(-22, small_organ(divisions=divisions, couplers=[0, division, 12]))
                self.assert_refused(-22, small_organ(divisions=divisions, couplers=[division, division, 12]))
            self.assert_taken(small_organ(divisions=divisions, couplers=[last, 0, 12]))
            self.assert_taken(small_organ(divisions=divisions, couplers=[0, last, 12]))

    def test_shift_of_a_coupler(self):
        for shift in (-128, -24, -13, -11, -1, 1, 11, 13, 24, 127):
            self.assert_refused(-22, two_divisions(couplers=[0, 1, shift]))
            self.assert_refused(-22, two_divisions(couplers=[1, 1, shift]))
        for shift in (-12, 0, 12):
            self.assert_taken(two_divisions(couplers=[0, 1, shift]))
            self.assert_taken(two_divisions(couplers=[1, 0, shift]))

    def test_a_coupler_to_itself_not_by_0(self):
        for division in (0, 1):
            self.assert_refused(-22, two_divisions(couplers=[division, division, 0]))
            self.assert_taken(two_divisions(couplers=[division, division, -12]))
            self.assert_taken(two_divisions(couplers=[division, division, 12]))

    def test_numbers_below_0_where_none_may_be(self):
        for below in (-1, -128):
            for stop in ([below, 0, 0, 60, 0], [0, below, 0, 60, 0], [0, 0, below, 60, 0], [0, 0, below, below, 0]):
                self.assert_refused(-22, small_organ(stops=stop))
            for coupler in ([below, 0, 12], [0, below, 12]):
                self.assert_refused(-22, small_organ(couplers=coupler))

    def test_a_fault_in_any_stop_or_coupler_even_one_that_is_not_held(self):
        for place in range(3):
            stops = [[0, 0, 0, 60, 0] for stop in range(3)]
            stops[place] = [0, 0, 0, 60, 97]
            self.assert_refused(-22, small_organ(stops=sum(stops, []), stops_held=0))
            couplers = [[0, 0, 12] for coupler in range(3)]
            couplers[place] = [0, 0, 0]
            self.assert_refused(-22, small_organ(couplers=sum(couplers, []), couplers_held=0))


class NotThere(Refusals):
    def test_keys_past_60(self):
        for division in range(4):
            for held in (bits(61), bits(62), bits(63), ALL_KEYS + bits(61), MOST_SET):
                keys = [0, 0, 0, 0]
                keys[division] = held
                self.assert_refused(-71, small_organ(divisions=4, keys=keys))
            for held in (bits(0), bits(60), ALL_KEYS):
                keys = [0, 0, 0, 0]
                keys[division] = held
                self.assert_taken(small_organ(divisions=4, keys=keys))

    def test_keys_of_a_division_that_there_is_not(self):
        for divisions in (1, 2, 3):
            for division in range(divisions, 4):
                for key in (0, 60, 63):
                    keys = [0, 0, 0, 0]
                    keys[division] = bits(key)
                    self.assert_refused(-71, small_organ(divisions=divisions, keys=keys))
            self.assert_taken(small_organ(divisions=divisions, keys=[1] * divisions + [0] * (4 - divisions)))

    def test_stops(self):
        for count in (1, 2, 63):
            stops = [0, 0, 0, 60, 0] * count
            for held in (bits(count), bits(0, count), bits(63), MOST_SET):
                self.assert_refused(-71, small_organ(stops=stops, stops_held=held))
            for held in (0, bits(count - 1), 2 ** count - 1):
                self.assert_taken(small_organ(stops=stops, stops_held=held))
        self.assert_taken(small_organ(stops=[0, 0, 0, 60, 0] * 64, stops_held=MOST_SET))

    def test_couplers(self):
        for count in (0, 1, 2, 31):
            couplers = [0, 0, 12] * count
            for held in (bits(count), bits(31), MOST_SHORT_SET):
                self.assert_refused(-71, small_organ(couplers=couplers, couplers_held=held))
            for held in (0, 2 ** count - 1):
                self.assert_taken(small_organ(couplers=couplers, couplers_held=held))
        self.assert_taken(small_organ(couplers=[0, 0, 12] * 32, couplers_held=MOST_SHORT_SET))

    def test_divisions_that_are_off(self):
        for divisions in (1, 2, 3, 4):
            for off in (bits(divisions), bits(0, divisions), bits(31), MOST_SHORT_SET):
                self.assert_refused(-71, small_organ(divisions=divisions, off=off))
            for off in (0, bits(divisions - 1), 2 ** divisions - 1):
                self.assert_taken(small_organ(divisions=divisions, off=off))


class SeveralAtOnce(Refusals):
    def test_the_one_told_first(self):
        no_plan = ({"divisions": 0}, {"divisions": 5}, {"rank_pipes": []}, {"rank_pipes": [98]}, {"stops": []},
                   {"stops": [0, 0, 0, 61, 0]}, {"couplers": [0, 0, 0]}, {"couplers": [0, 0, 12] * 33})
        not_there = ({"keys": [bits(61), 0, 0, 0]}, {"keys": [0, 0, 0, 1]}, {"stops_held": MOST_SET},
                     {"couplers_held": MOST_SHORT_SET}, {"off": MOST_SHORT_SET})
        for plan in no_plan:
            for held in not_there:
                self.assert_refused(-22, small_organ(**plan, **held))

    def test_ahead_of_a_pipe_that_speaks_by_all_else(self):
        organ = small_organ(couplers=[0, 0, 12], couplers_held=1, keys=[bits(20), 0, 0, 0])
        self.assertEqual(ask_why(organ, 0, 20), [0, 0, 20, 255, 20])
        self.assertEqual(ask_why(organ, 0, 32), [0, 0, 32, 0, 20])
        for refusal, change in ((-22, {"rank_pipes": [97, 0]}), (-22, {"couplers": [0, 0, 12, 0, 0, 0]}),
                                (-71, {"keys": [bits(20, 61), 0, 0, 0]}), (-71, {"keys": [bits(20), 1, 0, 0]}),
                                (-71, {"stops_held": 3}), (-71, {"couplers_held": 3}), (-71, {"off": 2})):
            for pipe in (20, 32):
                with self.subTest(change=change, pipe=pipe):
                    self.assertEqual(ask_why({**organ, **change}, 0, pipe), [refusal])

    def test_all_that_is_held_is_not_there(self):
        organ = small_organ(keys=[MOST_SET] * 4, stops_held=MOST_SET, couplers_held=MOST_SHORT_SET, off=MOST_SHORT_SET)
        self.assert_refused(-71, organ)


if __name__ == "__main__":
    unittest.main()
