"""What several of the tests share: a world told whole, and deeds drawn with a fixed start."""

import random

from movehouse.world import World

TOP = 10 ** 30
KEYS = ["ink", "pen", "map", "zz", "a", "lantern"]


def told(world, keys, callers):
    """All that a world tells when it is asked."""
    return {
        "letters": world.letters(),
        "ledger": world.ledger(),
        "asking": [world.asking(caller) for caller in range(callers)],
        "answers": [world.answers(caller) for caller in range(callers)],
        "owes": [world.owes(house) for house in (0, 1)],
        "home": [world.home(key) for key in keys],
        "has": [world.has(house, key) for house in (0, 1) for key in keys],
    }


def hand_all(world):
    """Hand what lies in the post now, from the first letter on."""
    for _ in world.letters():
        world.hand(0)


def flush(world):
    """Write and hand until nothing is laid out and nothing lies in the post."""
    for _ in range(3):
        world.write(0)
        world.write(1)
        hand_all(world)


def carry(world, key):
    """Move a key to the other house, letters and writings included."""
    world.move(key)
    flush(world)


def drawn_wish(chance):
    word = chance.choice(["get", "set", "add"])
    if word == "get":
        return ("get",)
    return (word, chance.choice([0, 1, -1, TOP, -TOP, chance.randint(-99, 99)]))


# What a run is like: how often each deed is drawn.
CALM = {"call": 40, "again": 20, "hand": 60, "twice": 3, "lose": 1, "move": 2, "write": 24, "sleep": 1, "nudge": 3}
MIXED = {"call": 40, "again": 20, "hand": 60, "twice": 9, "lose": 4, "move": 4, "write": 24, "sleep": 3, "nudge": 6}
SLEEPY = {"call": 40, "again": 20, "hand": 60, "twice": 6, "lose": 3, "move": 3, "write": 18, "sleep": 12, "nudge": 8}
CROWDED = {"call": 40, "again": 15, "hand": 40, "twice": 40, "lose": 4, "move": 4, "write": 24, "sleep": 3, "nudge": 4}
SORTS = (CALM, MIXED, SLEEPY, CROWDED)


def drawn_deed(chance, world, keys, callers, sort):
    """A deed that the world does not refuse: the name of a method and its arguments; None where none is there."""
    name = chance.choices(list(sort), list(sort.values()))[0]
    house = chance.randrange(2)
    if name in ("write", "sleep", "nudge"):
        return name, (house,)
    if name in ("hand", "twice", "lose"):
        lying = len(world.letters())
        # Half of the time a letter that was posted of late, else a full post would keep the answers from coming.
        least = chance.choice([0, max(0, lying - 4)])
        return (name, (chance.randrange(least, lying),)) if lying else None
    if name == "move":
        here = [key for key in keys if world.home(key) is not None]
        return (name, (chance.choice(here),)) if here else None
    begins = name == "call"
    some = [caller for caller in range(callers) if (world.asking(caller) is None) == begins]
    if not some:
        return None
    caller = chance.choice(some)
    key = chance.choice(keys) if begins else world.asking(caller)[1]
    # Mostly to the house that can answer, else few calls would ever be done.
    home = world.home(key)
    if home is not None and chance.random() < 0.7:
        house = home
    return (name, (caller, house, key, drawn_wish(chance))) if begins else (name, (caller, house))


def runs(starts, steps):
    """Worlds with deeds drawn for them, one run for each start; each row: start, world, keys, callers, deeds."""
    for start in range(starts):
        chance = random.Random(start)
        keys = KEYS[:chance.randint(1, 6)]
        callers = chance.randint(1, 6)
        world = World(list(keys), callers)
        yield start, world, keys, callers, deeds(chance, world, keys, callers, SORTS[start % len(SORTS)], steps)


def deeds(chance, world, keys, callers, sort, steps):
    """The deeds of one run; each is to be done before the next one is asked for."""
    for _ in range(steps):
        deed = drawn_deed(chance, world, keys, callers, sort)
        if deed is not None:
            yield deed
