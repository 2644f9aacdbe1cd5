"""Which pipes speak while keys, stops and couplers of an organ are held, and why."""

NO_PLAN = -22
NOT_THERE = -71
SILENT = -2

DIVISIONS_MOST = 4
RANKS_MOST = 16
RANK_PIPES_MOST = 97
STOPS_MOST = 64
COUPLERS_MOST = 32

KEYS = 61
STOP_SHIFT_LEAST = -60
STOP_SHIFT_MOST = 96
COUPLER_SHIFTS = (-12, 0, 12)

NUMBERS_OF_A_STOP = 5
NUMBERS_OF_A_COUPLER = 3
PIPES_IN_FIRST_NUMBER = 64

HELD_THERE_ITSELF = 255
NONE_FOUND = -1


class Stop:
    """A division's stop, which speaks by one rank."""

    def __init__(self, division, rank, low, high, shift):
        self.division = division
        self.rank = rank
        self.low = low
        self.high = high
        self.shift = shift


class Coupler:
    """A coupler, which leads the keys of its source to its target."""

    def __init__(self, source, target, shift):
        self.source = source
        self.target = target
        self.shift = shift


def read_stops(numbers):
    return [
        Stop(numbers[k], numbers[k + 1], numbers[k + 2], numbers[k + 3], numbers[k + 4])
        for k in range(0, len(numbers), NUMBERS_OF_A_STOP)
    ]


def read_couplers(numbers):
    return [
        Coupler(numbers[k], numbers[k + 1], numbers[k + 2])
        for k in range(0, len(numbers), NUMBERS_OF_A_COUPLER)
    ]


def is_stop(stop, divisions, ranks):
    if not 0 <= stop.division < divisions:
        return False
    if not 0 <= stop.rank < ranks:
        return False
    if not 0 <= stop.low <= stop.high < KEYS:
        return False
    return STOP_SHIFT_LEAST <= stop.shift <= STOP_SHIFT_MOST


def is_coupler(coupler, divisions):
    if not 0 <= coupler.source < divisions:
        return False
    if not 0 <= coupler.target < divisions:
        return False
    if coupler.source == coupler.target and coupler.shift == 0:
        return False
    return coupler.shift in COUPLER_SHIFTS


def are_ranks(rank_pipes):
    if not 1 <= len(rank_pipes) <= RANKS_MOST:
        return False
    return all([1 <= count <= RANK_PIPES_MOST for count in rank_pipes])


def are_stops(numbers, divisions, ranks):
    if len(numbers) % NUMBERS_OF_A_STOP != 0:
        return False
    stops = read_stops(numbers)
    if not 1 <= len(stops) <= STOPS_MOST:
        return False
    return all([is_stop(stop, divisions, ranks) for stop in stops])


def are_couplers(numbers, divisions):
    if len(numbers) % NUMBERS_OF_A_COUPLER != 0:
        return False
    couplers = read_couplers(numbers)
    if len(couplers) > COUPLERS_MOST:
        return False
    return all([is_coupler(coupler, divisions) for coupler in couplers])


def is_plan(divisions, rank_pipes, stops, couplers):
    if not 1 <= divisions <= DIVISIONS_MOST:
        return False
    if not are_ranks(rank_pipes):
        return False
    return are_stops(stops, divisions, len(rank_pipes)) and are_couplers(couplers, divisions)


def has_only(bits, count):
    """Whether a set has nothing but what is numbered from 0 to below count."""
    return (bits >> count) == 0


def are_keys_there(keys, divisions):
    for division, held in enumerate(keys):
        # A division that there isn't has no key either.
        count = KEYS if division < divisions else 0
        if not has_only(held, count):
            return False
    return True


def refusal_due(divisions, stops_held, couplers_held, off, rank_pipes, stops, couplers, keys):
    """The refusal that is told first of those that are due, or 0 if none is."""
    if not is_plan(divisions, rank_pipes, stops, couplers):
        return NO_PLAN
    if not are_keys_there(keys, divisions):
        return NOT_THERE
    if not has_only(stops_held, len(stops) // NUMBERS_OF_A_STOP):
        return NOT_THERE
    if not has_only(couplers_held, len(couplers) // NUMBERS_OF_A_COUPLER):
        return NOT_THERE
    if not has_only(off, divisions):
        return NOT_THERE
    return 0


def has(bits, number):
    return ((bits >> number) & 1) == 1


def first_bits(count):
    return (1 << count) - 1


def shifted(bits, shift):
    """The set with each number moved by shift; what would fall below 0 is gone."""
    if shift < 0:
        return bits >> -shift
    return bits << shift


def count_bits(bits):
    return sum([(bits >> number) & 1 for number in range(bits.bit_length())])


def held_ones(things, held):
    return [thing for number, thing in enumerate(things) if has(held, number)]


def sounding_keys(divisions, off, couplers, keys):
    """Of each division the set of keys that sound, by the couplers that are held."""
    sounding = [0 if has(off, division) else keys[division] for division in range(divisions)]
    for coupler in couplers:
        # From what's held, not from what sounds: what only sounds isn't coupled on.
        coupled = shifted(keys[coupler.source], coupler.shift) & first_bits(KEYS)
        sounding[coupler.target] = sounding[coupler.target] | coupled
    return sounding


def pipes_of_stop(stop, sounding, pipe_count):
    """The set of pipes that a stop makes speak, of a rank of pipe_count pipes."""
    reach = first_bits(stop.high + 1) - first_bits(stop.low)
    return shifted(sounding & reach, stop.shift) & first_bits(pipe_count)


def speaking_pipes(rank_pipes, stops, sounding):
    """Of each of 16 ranks the set of pipes that speak, by the stops that are held."""
    speaking = [0 for rank in range(RANKS_MOST)]
    for stop in stops:
        spoken = pipes_of_stop(stop, sounding[stop.division], rank_pipes[stop.rank])
        # Joined, not added: two stops may lead to one pipe.
        speaking[stop.rank] = speaking[stop.rank] | spoken
    return speaking


def told_pipes(speaking):
    """The count of all pipes that speak, then of each rank its two numbers."""
    told = [sum([count_bits(bits) for bits in speaking])]
    for bits in speaking:
        told.append(bits & first_bits(PIPES_IN_FIRST_NUMBER))
        told.append(bits >> PIPES_IN_FIRST_NUMBER)
    return told


def pipes(divisions, stops_held, couplers_held, off, rank_pipes, stops, couplers, keys):
    """How many pipes speak and which, 33 numbers; or a refusal alone."""
    refusal = refusal_due(divisions, stops_held, couplers_held, off, rank_pipes, stops, couplers, keys)
    if refusal != 0:
        return [refusal]
    couplers_on = held_ones(read_couplers(couplers), couplers_held)
    stops_on = held_ones(read_stops(stops), stops_held)
    sounding = sounding_keys(divisions, off, couplers_on, keys)
    return told_pipes(speaking_pipes(rank_pipes, stops_on, sounding))


def has_pipe(rank_pipes, rank, pipe):
    return rank < len(rank_pipes) and pipe < rank_pipes[rank]


def key_to_pipe(stop, pipe):
    """The one key that can lead to a pipe by a stop; it may be none of the stop's keys."""
    return pipe - stop.shift


def speaks_by(stop, rank, pipe, sounding):
    """Whether a stop makes a rank's pipe speak, by the keys that sound on the stop's division."""
    key = key_to_pipe(stop, pipe)
    return stop.rank == rank and stop.low <= key <= stop.high and has(sounding, key)


def sounds_by(coupler, division, key, keys):
    """Whether a coupler makes a key sound on a division, by the keys that are held."""
    start = key - coupler.shift
    return coupler.target == division and 0 <= start < KEYS and has(keys[coupler.source], start)


def least_stop(stops, stops_held, rank, pipe, sounding):
    """The number of the first stop that's held and makes the pipe speak, or NONE_FOUND."""
    for number, stop in enumerate(stops):
        if has(stops_held, number) and speaks_by(stop, rank, pipe, sounding[stop.division]):
            return number
    return NONE_FOUND


def least_coupler(couplers, couplers_held, division, key, keys):
    """The number of the first coupler that's held and makes the key sound, or NONE_FOUND."""
    for number, coupler in enumerate(couplers):
        if has(couplers_held, number) and sounds_by(coupler, division, key, keys):
            return number
    return NONE_FOUND


def cause_of_key(division, key, couplers_held, off, couplers, keys):
    """Of a key that sounds: 255 or the coupler by which it does, and the key that's held."""
    if has(keys[division], key) and not has(off, division):
        return [HELD_THERE_ITSELF, key]
    # One is found: a key that sounds and isn't held there itself is coupled.
    number = least_coupler(couplers, couplers_held, division, key, keys)
    return [number, key - couplers[number].shift]


def why(divisions, stops_held, couplers_held, off, rank, pipe, rank_pipes, stops, couplers, keys):
    """0, and by which stop, key, coupler and held key a pipe speaks; or a refusal alone."""
    refusal = refusal_due(divisions, stops_held, couplers_held, off, rank_pipes, stops, couplers, keys)
    if refusal != 0:
        return [refusal]
    if not has_pipe(rank_pipes, rank, pipe):
        return [SILENT]
    all_stops = read_stops(stops)
    all_couplers = read_couplers(couplers)
    sounding = sounding_keys(divisions, off, held_ones(all_couplers, couplers_held), keys)
    number = least_stop(all_stops, stops_held, rank, pipe, sounding)
    if number == NONE_FOUND:
        return [SILENT]
    stop = all_stops[number]
    key = key_to_pipe(stop, pipe)
    return [0, number, key] + cause_of_key(stop.division, key, couplers_held, off, all_couplers, keys)
