"""Search among all keys of a frame at once.

A key's number is its depths read as digits, in base depths, so that keys in
order are numbers in order. A set of keys is a whole number with bit n for key
number n. There are up to 262144 keys: taken as sets, a few operations a lock
do what would else be done key by key.

Locks are packed here: one whole number, PIN_BITS bits a pin, the last pin
lowest. A packed key is the packed lock that this key alone opens.
"""

PIN_BITS = 8
PIN_MASK = 255


def packed_lock(lock):
    together = 0
    for chosen in lock:
        together = (together << PIN_BITS) | chosen
    return together


def unpacked_lock(frame, together):
    """The sets of a packed lock, the first pin's first."""
    return [(together >> (PIN_BITS * behind)) & PIN_MASK for behind in range(frame.pins - 1, -1, -1)]


def packed_key(key):
    return packed_lock([1 << depth for depth in key])


def every_depth(frame):
    return (1 << frame.depths) - 1


def widened(frame, part):
    """The lock that takes every depth at the pins where part has none."""
    lock = 0
    for pin in range(frame.pins):
        place = PIN_BITS * pin
        chosen = (part >> place) & PIN_MASK
        taken = chosen if chosen else every_depth(frame)
        lock = lock | (taken << place)
    return lock


def put_ahead(chosen, ends, size):
    """Of keys one pin longer: each depth of chosen, with the ends it may have."""
    longer = 0
    for depth, end in enumerate(ends):
        if chosen >> depth & 1:
            longer = longer | (end << (depth * size))
    return longer


def near_depths(frame, depth):
    return sum([1 << other for other in range(frame.depths) if abs(other - depth) <= frame.step])


def keys_that_can_be_cut(frame):
    # ends[depth]: what may stand behind that depth, the empty end at first.
    ends = [1] * frame.depths
    size = 1
    for pin in range(frame.pins - 1):
        ends = [put_ahead(near_depths(frame, depth), ends, size) for depth in range(frame.depths)]
        size = size * frame.depths
    return put_ahead(every_depth(frame), ends, size)


def keys_that_open_any(frame, locks):
    """The keys, whether they can be cut or not, that open one of the packed locks."""
    # Locks that are the same in their first pins are joined as soon as only
    # those are left: the long sets are then made for few of them.
    fronts = dict([(lock, 1) for lock in locks])
    size = 1
    for pin in range(frame.pins):
        shorter = {}
        for front in fronts:
            ends = [fronts[front]] * frame.depths
            rest = front >> PIN_BITS
            shorter[rest] = shorter.get(rest, 0) | put_ahead(front & PIN_MASK, ends, size)
        fronts = shorter
        size = size * frame.depths
    return fronts.get(0, 0)


def keys_behind(frame, pool, key):
    number = 0
    for depth in key:
        number = number * frame.depths + depth
    return (pool >> (number + 1)) << (number + 1)


def without(pool, taken):
    return pool ^ (pool & taken)


def first_key(frame, pool):
    """The first key of a set of keys, or None where it is empty."""
    if pool == 0:
        return None
    number = (pool & -pool).bit_length() - 1
    key = []
    for pin in range(frame.pins):
        key.append(number % frame.depths)
        number = number // frame.depths
    return list(reversed(key))
