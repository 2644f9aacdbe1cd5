"""What holds over many organs, of pipes and why together: promise 4."""

import random
import unittest

from tests.helper import (
    ALL_KEYS, ask, ask_why, bits, each_pipe, groups, is_held, made_crowded_organ, made_organ)


def many_organs(seed):
    chance = random.Random(seed)
    return [made_organ(chance) for number in range(20)] + [made_crowded_organ(chance) for number in range(60)]


def speaking_places(organ):
    """The ranks and pipes that speak, from the bits that pipes answers."""
    answer = ask(organ)
    return {(rank, pipe) for rank in range(16) for pipe in range(97)
            if is_held(answer[1 + 2 * rank + pipe // 64], pipe % 64)}


def places_with_a_reason(organ):
    return {place for place in each_pipe(organ) if ask_why(organ, *place)[0] == 0}


def more_held(organ, chance):
    """The organ with one more key, stop or coupler held; or all of them."""
    divisions = organ["divisions"]
    stop_count = len(organ["stops"]) // 5
    coupler_count = len(organ["couplers"]) // 3
    keys = list(organ["keys"])
    keys[chance.randrange(divisions)] |= bits(chance.randrange(61))
    changes = [
        {"keys": keys},
        {"keys": [ALL_KEYS] * divisions + [0] * (4 - divisions)},
        {"stops_held": organ["stops_held"] | bits(chance.randrange(stop_count))},
        {"stops_held": 2 ** stop_count - 1},
        {"couplers_held": 2 ** coupler_count - 1},
    ]
    if coupler_count:
        changes.append({"couplers_held": organ["couplers_held"] | bits(chance.randrange(coupler_count))})
    return [{**organ, **change} for change in changes]


class WhyAndPipes(unittest.TestCase):
    def assert_so(self, organ, rank, pipe, reason):
        """That each part of a reason is so, by itself and with the others."""
        stop, key, cause, held_key = reason
        division, stop_rank, low, high, shift = groups(organ["stops"], 5)[stop]
        self.assertTrue(is_held(organ["stops_held"], stop))
        self.assertEqual((stop_rank, key + shift), (rank, pipe))
        self.assertTrue(low <= key <= high)
        self.assertTrue(0 <= held_key <= 60)
        if cause == 255:
            self.assertEqual(held_key, key)
            self.assertTrue(is_held(organ["keys"][division], key))
            self.assertFalse(is_held(organ["off"], division))
        else:
            source, target, coupler_shift = groups(organ["couplers"], 3)[cause]
            self.assertTrue(is_held(organ["couplers_held"], cause))
            self.assertEqual((target, held_key + coupler_shift), (division, key))
            self.assertTrue(is_held(organ["keys"][source], held_key))

    def test_why_answers_0_exactly_for_what_speaks(self):
        for organ in many_organs(8):
            with self.subTest(organ=organ):
                self.assertEqual(places_with_a_reason(organ), speaking_places(organ))
                self.assertEqual(len(speaking_places(organ)), ask(organ)[0])

    def test_of_whatever_speaks_a_reason_that_is_so(self):
        reasons = 0
        for organ in many_organs(9):
            for rank, pipe in speaking_places(organ):
                with self.subTest(organ=organ, rank=rank, pipe=pipe):
                    answer = ask_why(organ, rank, pipe)
                    self.assertEqual((answer[0], len(answer)), (0, 5))
                    self.assert_so(organ, rank, pipe, answer[1:])
                    reasons += 1
        self.assertGreater(reasons, 500)

    def test_of_whatever_does_not_speak_no_reason(self):
        for organ in many_organs(10):
            for rank, pipe in set(each_pipe(organ)) - speaking_places(organ):
                with self.subTest(organ=organ, rank=rank, pipe=pipe):
                    self.assertEqual(ask_why(organ, rank, pipe), [-2])


class MoreAndFewer(unittest.TestCase):
    def test_more_held_no_pipe_less(self):
        chance = random.Random(3)
        for organ in many_organs(11):
            for more in more_held(organ, chance):
                with self.subTest(organ=organ, more=more):
                    self.assertLessEqual(speaking_places(organ), speaking_places(more))
                    self.assertLessEqual(ask(organ)[0], ask(more)[0])

    def test_more_held_no_reason_less(self):
        chance = random.Random(4)
        for organ in many_organs(12)[::8]:
            for more in more_held(organ, chance):
                with self.subTest(organ=organ, more=more):
                    self.assertLessEqual(places_with_a_reason(organ), places_with_a_reason(more))

    def test_a_division_off_no_pipe_more(self):
        for organ in many_organs(13):
            for division in range(organ["divisions"]):
                fewer = {**organ, "off": organ["off"] | bits(division)}
                with self.subTest(organ=organ, division=division):
                    self.assertLessEqual(speaking_places(fewer), speaking_places(organ))
                    self.assertLessEqual(ask(fewer)[0], ask(organ)[0])

    def test_a_division_off_no_reason_more(self):
        for organ in many_organs(14)[::8]:
            for division in range(organ["divisions"]):
                fewer = {**organ, "off": organ["off"] | bits(division)}
                with self.subTest(organ=organ, division=division):
                    self.assertLessEqual(places_with_a_reason(fewer), places_with_a_reason(organ))

    def test_no_stop_held_no_pipe(self):
        for organ in many_organs(15):
            silent = {**organ, "stops_held": 0}
            with self.subTest(organ=organ):
                self.assertEqual(ask(silent), [0] * 33)
                self.assertEqual(places_with_a_reason(silent), set())


if __name__ == "__main__":
    unittest.main()
