"""The world: the callers, the two houses, the post between them, and the ledger."""

from movehouse.callers import Caller
from movehouse.desk import is_whole, need_wish
from movehouse.errors import BadWorld, Busy, Idle, NoCaller, NoHouse, NoKey, NoLetter, NotHere
from movehouse.houses import House

HOUSES = (0, 1)
MOST_KEYS = 6
MOST_SIGNS = 8
MOST_CALLERS = 6


# The messages of the errors leave out what was handed in: Python refuses to write out very long numbers.


def is_key(key):
    """Whether this may be a key of a world."""
    if not isinstance(key, str):
        return False
    return 1 <= len(key) <= MOST_SIGNS and all("a" <= sign <= "z" for sign in key)


def are_keys(keys):
    """Whether this is a list of keys as a world may have it."""
    if not isinstance(keys, list) or not 1 <= len(keys) <= MOST_KEYS:
        return False
    return all(is_key(key) for key in keys) and len(set(keys)) == len(keys)


def need_world(keys, callers):
    """Refuse with BadWorld what makes no world."""
    if not are_keys(keys):
        raise BadWorld("the keys are a list of 1 to 6 different texts, each of 1 to 8 signs from a to z")
    if not is_whole(callers) or not 1 <= callers <= MOST_CALLERS:
        raise BadWorld("the count of callers is a whole number from 1 to 6")


def is_place(value, rows):
    """Whether the value is the place of one of the rows, counted from nought."""
    return is_whole(value) and 0 <= value < len(rows)


class World:
    """A desk in two houses, with whoever calls it and all that is under way."""

    def __init__(self, keys, callers):
        need_world(keys, callers)
        self.names = list(keys)
        self.callers = [Caller(number) for number in range(callers)]
        self.houses = [House(number, self.names) for number in HOUSES]
        self.post = []
        self.rows = []

    def need_caller(self, caller):
        """Refuse a caller that is not there with NoCaller."""
        if not is_place(caller, self.callers):
            raise NoCaller("there is no such caller")

    def need_house(self, house):
        """Refuse a house that is not there with NoHouse."""
        if not is_place(house, HOUSES):
            raise NoHouse("there is no such house")

    def need_key(self, key):
        """Refuse a key that is not there with NoKey."""
        if not isinstance(key, str) or key not in self.names:
            raise NoKey("there is no such key")

    def need_letter(self, place):
        """Refuse a place of the post where no letter lies with NoLetter."""
        if not is_place(place, self.post):
            raise NoLetter("there is no letter at this place")

    def call(self, caller, house, key, wish):
        """Begin a call and post its letter; the call's number."""
        self.need_caller(caller)
        self.need_house(house)
        self.need_key(key)
        need_wish(wish)
        if self.asking(caller) is not None:
            raise Busy("the caller has an open call")
        number = self.callers[caller].begin(key, wish)
        self.post_call(caller, house)
        return number

    def again(self, caller, house):
        """Post the letter of the caller's open call once more."""
        self.need_caller(caller)
        self.need_house(house)
        if self.asking(caller) is None:
            raise Idle("the caller has no open call")
        self.post_call(caller, house)

    def post_call(self, caller, house):
        """Post the letter of the caller's open call to this house."""
        self.post.append(self.callers[caller].letter(house))

    def letters(self):
        """The letters in the post, in the order in which they were posted."""
        return list(self.post)

    def hand(self, place):
        """Hand the letter at this place over; it goes out of the post."""
        self.need_letter(place)
        self.bring(self.post.pop(place))

    def twice(self, place):
        """Hand the letter at this place over; it stays in the post where it lies."""
        self.need_letter(place)
        self.bring(self.post[place])

    def lose(self, place):
        """Lose the letter at this place; it comes to nobody."""
        self.need_letter(place)
        del self.post[place]

    def bring(self, letter):
        """Let a letter come to the caller or the house that it is for."""
        if letter[0] == "answer":
            caller, number, told = letter[1:]
            self.callers[caller].came(number, told)
        else:
            self.houses[letter[1]].came(letter)

    def move(self, key):
        """Let the house where the key is here move it to the other one."""
        house = self.home(key)
        if house is None:
            raise NotHere("the key is here in neither house")
        self.houses[house].move(key)

    def home(self, key):
        """The house where the key is here, or None."""
        self.need_key(key)
        for house in HOUSES:
            if self.houses[house].has(key):
                return house
        return None

    def has(self, house, key):
        """Whether the key is here in this house."""
        self.need_house(house)
        self.need_key(key)
        return self.houses[house].has(key)

    def write(self, house):
        """Let the house write all down: its letters are posted, its rows come into the ledger."""
        self.need_house(house)
        posted, rows = self.houses[house].write()
        self.post.extend(posted)
        self.rows.extend(rows)

    def sleep(self, house):
        """Let the house forget all that it has not written down."""
        self.need_house(house)
        self.houses[house].sleep()

    def nudge(self, house):
        """Let the house post once more the parcels that it owes by what is written down."""
        self.need_house(house)
        self.post.extend(self.houses[house].nudge())

    def ledger(self):
        """The rows of the ledger."""
        return list(self.rows)

    def asking(self, caller):
        """The caller's open call, or None."""
        self.need_caller(caller)
        return self.callers[caller].asking()

    def answers(self, caller):
        """The number of each closed call of the caller and what its answer told, in order."""
        self.need_caller(caller)
        return self.callers[caller].answers()

    def owes(self, house):
        """The keys of which the house owes a parcel, in the keys' order."""
        self.need_house(house)
        return self.houses[house].owes()

    def settle(self):
        """Play rounds until no call is open and no house owes a parcel; how many it took."""
        rounds = 0
        while not self.is_settled():
            self.play_round()
            rounds += 1
        return rounds

    def is_settled(self):
        """Whether no call is open and no house owes a parcel, by what it knows."""
        for caller in self.callers:
            if caller.asking() is not None:
                return False
        for house in self.houses:
            if len(house.owes()) > 0:
                return False
        return True

    def play_round(self):
        """One round of settling, in the order that point 15 of the document tells."""
        for house in HOUSES:
            self.write(house)
        for house in HOUSES:
            self.nudge(house)
        for caller in range(len(self.callers)):
            if self.asking(caller) is not None:
                for house in HOUSES:
                    self.post_call(caller, house)
        self.hand_all()

    def hand_all(self):
        """Hand all letters that lie in the post now, from the first one on."""
        letters = self.post
        self.post = []
        for letter in letters:
            self.bring(letter)
