"""What the tests share: a small organ to change, answers to expect, a slow reading of the words."""

from keyspipes.organ import pipes

ALL_KEYS = 2 ** 61 - 1
MOST_SET = 2 ** 64 - 1
MOST_SHORT_SET = 2 ** 32 - 1


def bits(*numbers):
    return sum(1 << number for number in set(numbers))


def small_organ(**changes):
    """One division, one rank, one stop that is held, no key; changed as told."""
    organ = {
        "divisions": 1,
        "stops_held": 1,
        "couplers_held": 0,
        "off": 0,
        "rank_pipes": [97],
        "stops": [0, 0, 0, 60, 0],
        "couplers": [],
        "keys": [0, 0, 0, 0],
    }
    for name in changes:
        if name not in organ:
            raise KeyError(name)
    organ.update(changes)
    return organ


def two_divisions(**changes):
    """Two divisions, each with a rank and a stop of its own; both stops held."""
    organ = {"divisions": 2, "stops_held": 3, "rank_pipes": [97, 97],
             "stops": [0, 0, 0, 60, 0, 1, 1, 0, 60, 0]}
    organ.update(changes)
    return small_organ(**organ)


def ask(organ):
    return pipes(**organ)


def pipes_answer(speaking):
    """The answer to expect, from a dict of each rank's pipes that speak."""
    answer = [sum(len(set(numbers)) for numbers in speaking.values())]
    for rank in range(16):
        numbers = speaking.get(rank, [])
        answer.append(bits(*[number for number in numbers if number < 64]))
        answer.append(bits(*[number - 64 for number in numbers if number >= 64]))
    return answer


def groups(numbers, size):
    return [tuple(numbers[k:k + size]) for k in range(0, len(numbers), size)]


def is_held(held, number):
    return held // 2 ** number % 2 == 1


def sounds_by_words(organ, division, key):
    if is_held(organ["keys"][division], key) and not is_held(organ["off"], division):
        return True
    for number, (source, target, shift) in enumerate(groups(organ["couplers"], 3)):
        if is_held(organ["couplers_held"], number) and target == division:
            if 0 <= key - shift <= 60 and is_held(organ["keys"][source], key - shift):
                return True
    return False


def answer_by_words(organ):
    """What pipes is to answer for a plan and what's held without fault, key by key."""
    speaking = {}
    for number, (division, rank, low, high, shift) in enumerate(groups(organ["stops"], 5)):
        if not is_held(organ["stops_held"], number):
            continue
        for key in range(low, high + 1):
            if sounds_by_words(organ, division, key) and 0 <= key + shift < organ["rank_pipes"][rank]:
                speaking.setdefault(rank, set()).add(key + shift)
    return pipes_answer(speaking)


def made_stop(chance, divisions, ranks):
    low = chance.randint(0, 60)
    shift = chance.choice([-60, -24, -12, 0, 0, 12, 36, 96, chance.randint(-60, 96)])
    return [chance.randrange(divisions), chance.randrange(ranks), low, chance.randint(low, 60), shift]


def made_coupler(chance, divisions):
    source = chance.randrange(divisions)
    target = chance.randrange(divisions)
    return [source, target, chance.choice([-12, 12] if source == target else [-12, 0, 12])]


def made_organ(chance):
    """A plan and what's held without fault, of any size, by a seeded Random."""
    divisions = chance.randint(1, 4)
    ranks = chance.randint(1, 16)
    stop_count = chance.choice([1, 2, 5, 20, 64])
    coupler_count = chance.choice([0, 1, 3, 10, 32])
    keys = [chance.getrandbits(61) & chance.getrandbits(61) & chance.getrandbits(61) for d in range(divisions)]
    return {
        "divisions": divisions,
        "stops_held": chance.getrandbits(stop_count),
        "couplers_held": chance.getrandbits(coupler_count) if coupler_count else 0,
        "off": chance.getrandbits(divisions),
        "rank_pipes": [chance.choice([1, 61, 63, 64, 65, 97, chance.randint(1, 97)]) for r in range(ranks)],
        "stops": sum([made_stop(chance, divisions, ranks) for s in range(stop_count)], []),
        "couplers": sum([made_coupler(chance, divisions) for c in range(coupler_count)], []),
        "keys": keys + [0] * (4 - divisions),
    }
