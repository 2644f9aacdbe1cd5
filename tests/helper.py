"""What the tests share: a small organ to change, answers to expect, a slow reading of the words."""

from keyspipes.organ import pipes, why

ALL_KEYS = 2 ** 61 - 1
MOST_SET = 2 ** 64 - 1
MOST_SHORT_SET = 2 ** 32 - 1


def bits(*numbers):
    return sum(1 << number for number in set(numbers))


def small_organ(**changes):
    """One division, one rank, one stop that is held, no key; changed as told."""
    organ = {
        "divisions": 1,
        "stops_held": 1,
        "couplers_held": 0,
        "off": 0,
        "rank_pipes": [97],
        "stops": [0, 0, 0, 60, 0],
        "couplers": [],
        "keys": [0, 0, 0, 0],
    }
    for name in changes:
        if name not in organ:
            raise KeyError(name)
    organ.update(changes)
    return organ


def two_divisions(**changes):
    """Two divisions, each with a rank and a stop of its own; both stops held."""
    organ = {"divisions": 2, "stops_held": 3, "rank_pipes": [97, 97],
             "stops": [0, 0, 0, 60, 0, 1, 1, 0, 60, 0]}
    organ.update(changes)
    return small_organ(**organ)


def ask(organ):
    return pipes(**organ)


def ask_why(organ, rank, pipe):
    return why(rank=rank, pipe=pipe, **organ)


def pipes_answer(speaking):
    """The answer to expect, from a dict of each rank's pipes that speak."""
    answer = [sum(len(set(numbers)) for numbers in speaking.values())]
    for rank in range(16):
        numbers = speaking.get(rank, [])
        answer.append(bits(*[number for number in numbers if number < 64]))
        answer.append(bits(*[number - 64 for number in numbers if number >= 64]))
    return answer


def groups(numbers, size):
    return [tuple(numbers[k:k + size]) for k in range(0, len(numbers), size)]


def is_held(held, number):
    return held // 2 ** number % 2 == 1


def sounds_by_words(organ, division, key):
    if is_held(organ["keys"][division], key) and not is_held(organ["off"], division):
        return True
    for number, (source, target, shift) in enumerate(groups(organ["couplers"], 3)):
        if is_held(organ["couplers_held"], number) and target == division:
            if 0 <= key - shift <= 60 and is_held(organ["keys"][source], key - shift):
                return True
    return False


def answer_by_words(organ):
    """What pipes is to answer for a plan and what's held without fault, key by key."""
    speaking = {}
    for number, (division, rank, low, high, shift) in enumerate(groups(organ["stops"], 5)):
        if not is_held(organ["stops_held"], number):
            continue
        for key in range(low, high + 1):
            if sounds_by_words(organ, division, key) and 0 <= key + shift < organ["rank_pipes"][rank]:
                speaking.setdefault(rank, set()).add(key + shift)
    return pipes_answer(speaking)


def ways_by_words(organ, rank, pipe):
    """Every way by which a pipe speaks, as why tells one: stop, key, 255 or coupler, key that's held."""
    ways = []
    for stop, (division, stop_rank, low, high, shift) in enumerate(groups(organ["stops"], 5)):
        for key in range(low, high + 1):
            leads = stop_rank == rank and key + shift == pipe and pipe < organ["rank_pipes"][rank]
            if leads and is_held(organ["stops_held"], stop):
                ways += [(stop, key) + cause for cause in causes_by_words(organ, division, key)]
    return ways


def causes_by_words(organ, division, key):
    """Every cause by which a key sounds on a division: 255 or a coupler, and the key that's held."""
    causes = []
    if is_held(organ["keys"][division], key) and not is_held(organ["off"], division):
        causes.append((255, key))
    for number, (source, target, shift) in enumerate(groups(organ["couplers"], 3)):
        for start in range(61):
            if is_held(organ["couplers_held"], number) and target == division and start + shift == key:
                if is_held(organ["keys"][source], start):
                    causes.append((number, start))
    return causes


def why_by_words(organ, rank, pipe):
    """What why is to answer for a plan and what's held without fault."""
    ways = ways_by_words(organ, rank, pipe)
    if not ways:
        return [-2]
    # 255 goes ahead of any coupler, so it's set below them all.
    return [0] + list(min(ways, key=lambda way: (way[0], way[1], -1 if way[2] == 255 else way[2])))


def made_stop(chance, divisions, ranks):
    low = chance.randint(0, 60)
    shift = chance.choice([-60, -24, -12, 0, 0, 12, 36, 96, chance.randint(-60, 96)])
    return [chance.randrange(divisions), chance.randrange(ranks), low, chance.randint(low, 60), shift]


def made_coupler(chance, divisions):
    source = chance.randrange(divisions)
    target = chance.randrange(divisions)
    return [source, target, chance.choice([-12, 12] if source == target else [-12, 0, 12])]


def made_organ(chance):
    """A plan and what's held without fault, of any size, by a seeded Random."""
    divisions = chance.randint(1, 4)
    ranks = chance.randint(1, 16)
    stop_count = chance.choice([1, 2, 5, 20, 64])
    coupler_count = chance.choice([0, 1, 3, 10, 32])
    keys = [chance.getrandbits(61) & chance.getrandbits(61) & chance.getrandbits(61) for d in range(divisions)]
    return {
        "divisions": divisions,
        "stops_held": chance.getrandbits(stop_count),
        "couplers_held": chance.getrandbits(coupler_count) if coupler_count else 0,
        "off": chance.getrandbits(divisions),
        "rank_pipes": [chance.choice([1, 61, 63, 64, 65, 97, chance.randint(1, 97)]) for r in range(ranks)],
        "stops": sum([made_stop(chance, divisions, ranks) for s in range(stop_count)], []),
        "couplers": sum([made_coupler(chance, divisions) for c in range(coupler_count)], []),
        "keys": keys + [0] * (4 - divisions),
    }


def made_crowded_organ(chance):
    """A faultless organ of few ranks and octave shifts, so that many pipes speak in several ways."""
    organ = made_organ(chance)
    ranks = chance.randint(1, 2)
    stops = [[chance.randrange(organ["divisions"]), chance.randrange(ranks), chance.choice([0, 0, 12, 30]),
              chance.choice([30, 48, 60, 60]), chance.choice([-12, 0, 12, 24, 36])] for s in range(8)]
    couplers = [made_coupler(chance, organ["divisions"]) for c in range(8)]
    organ.update(rank_pipes=[chance.choice([61, 73, 97]) for r in range(ranks)], stops=sum(stops, []),
                 couplers=sum(couplers, []), stops_held=chance.getrandbits(8), couplers_held=chance.getrandbits(8))
    return organ


def each_pipe(organ):
    """Every rank and pipe, and some past the last ones."""
    places = [(rank, pipe) for rank, count in enumerate(organ["rank_pipes"]) for pipe in range(count + 2)]
    return places + [(len(organ["rank_pipes"]), 0), (MOST_SHORT_SET, MOST_SHORT_SET)]
