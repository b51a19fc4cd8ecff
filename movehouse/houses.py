"""A house: what it knows of its keys, what it laid out, and what it wrote down."""

from movehouse.desk import done
from movehouse.errors import NotHere

HERE = "here"
OWED = "owed"
GONE = "gone"


# What a house knows of a key is one tuple: HERE, OWED or GONE, then the turn, the amount and the marks.
# Tuples do not change, so a copy of the dict that holds them is all that writing down takes.


def known_at_first(house):
    """What a house knows of each key at first."""
    if house == 0:
        return (HERE, 0, 0, ())
    return (GONE, -1, 0, ())


def mark_of(marks, caller):
    """The mark of this caller, or None."""
    for mark in marks:
        if mark[0] == caller:
            return mark
    return None


def with_mark(marks, new):
    """The marks with the new one in the place of its caller's last one, rising by caller."""
    others = [mark for mark in marks if mark[0] != new[0]]
    return tuple(sorted([*others, new], key=lambda mark: mark[0]))


class House:
    """One of the two houses in which the desk stands."""

    def __init__(self, number, keys):
        self.number = number
        self.known = {key: known_at_first(number) for key in keys}
        self.written = dict(self.known)
        self.laid_out = []
        self.new_rows = []

    def has(self, key):
        """Whether the key is here."""
        return self.known[key][0] == HERE

    def owes(self):
        """The keys of which the house owes a parcel, in the keys' order."""
        return [key for key, facts in self.known.items() if facts[0] == OWED]

    def came(self, letter):
        """Take in a call, parcel or taken letter for this house."""
        if letter[0] == "call":
            self.call_came(letter)
        elif letter[0] == "parcel":
            self.parcel_came(letter)
        elif letter[0] == "taken":
            self.taken_came(letter)

    def call_came(self, letter):
        """Do the wish of a call, or tell again what it told, or pass the letter over."""
        caller, number, key, wish = letter[2:]
        if not self.has(key):
            return
        mark = mark_of(self.known[key][3], caller)
        if mark is not None and mark[1] > number:
            return
        if mark is None or mark[1] < number:
            mark = (caller, number, self.do_wish(caller, number, key, wish))
        self.lay_out(("answer", caller, number, mark[2]))

    def do_wish(self, caller, number, key, wish):
        """Do the wish of a call with a key that is here; what it tells."""
        state, turn, old, marks = self.known[key]
        amount, told = done(old, wish)
        self.known[key] = (state, turn, amount, with_mark(marks, (caller, number, told)))
        self.new_rows.append((caller, number, key, wish, told))
        return told

    def parcel_came(self, letter):
        """Take the key in if the parcel is news, and lay out a taken letter in any case."""
        key, turn, amount, marks = letter[2:]
        if turn > self.known[key][1]:
            self.known[key] = (HERE, turn, amount, marks)
        self.lay_out(("taken", 1 - self.number, key, turn))

    def taken_came(self, letter):
        """Let go of the key if it is the owed parcel that was taken."""
        key, turn = letter[2:]
        state, known_turn = self.known[key][:2]
        if state == OWED and turn == known_turn + 1:
            self.known[key] = (GONE, known_turn, 0, ())

    def move(self, key):
        """From now on owe the other house a parcel of this key."""
        if not self.has(key):
            raise NotHere("the key is not here")
        turn, amount, marks = self.known[key][1:]
        self.known[key] = (OWED, turn, amount, marks)
        self.lay_out(self.parcel(key, self.known[key]))

    def parcel(self, key, facts):
        """The parcel letter of a key that is owed; the facts are known, or written down."""
        turn, amount, marks = facts[1:]
        return ("parcel", 1 - self.number, key, turn + 1, amount, marks)

    def lay_out(self, letter):
        """Lay a letter out, to be posted when the house writes."""
        self.laid_out.append(letter)

    def write(self):
        """Write all down; the letters that are posted, and the rows that come into the ledger."""
        posted = self.laid_out
        rows = self.new_rows
        self.written = dict(self.known)
        self.laid_out = []
        self.new_rows = []
        return (posted, rows)

    def sleep(self):
        """Forget all that is not written down."""
        self.known = dict(self.written)
        self.laid_out = []
        self.new_rows = []

    def nudge(self):
        """The parcels that are owed by what is written down, to be posted once more."""
        return [self.parcel(key, facts) for key, facts in self.written.items() if facts[0] == OWED]
