"""What a wish is, what it does, and a desk that never moves."""

from movehouse.errors import BadWish

LIMIT = 10 ** 30


def is_whole(value):
    """Whether the value is a whole number."""
    # Python counts True and False among the integers; the document does not.
    return isinstance(value, int) and not isinstance(value, bool)


def is_word(value, words):
    """Whether the value is a text and one of the words."""
    return isinstance(value, str) and value in words


def is_wish(wish):
    """Whether this is one of the three sorts of wish."""
    if not isinstance(wish, tuple):
        return False
    if len(wish) == 1:
        return is_word(wish[0], ("get",))
    if len(wish) == 2:
        word, n = wish
        return is_word(word, ("set", "add")) and is_whole(n) and -LIMIT <= n <= LIMIT
    return False


def need_wish(wish):
    """Refuse what is no wish with BadWish."""
    if not is_wish(wish):
        # The message leaves out what was handed in: Python refuses to write out very long numbers.
        raise BadWish("a wish is a tuple: get alone, or set or add with a whole number from -10 ** 30 to 10 ** 30")


def done(amount, wish):
    """The amount behind the wish, and what the wish tells."""
    if wish[0] == "get":
        return amount, amount
    word, n = wish
    if word == "set":
        return n, amount
    return amount + n, amount + n


def played(keys, rows):
    """What the wishes of the rows tell, done one by one at a desk that never moves."""
    amounts = {key: 0 for key in keys}
    answers = []
    for key, wish in rows:
        amount, told = done(amounts[key], wish)
        amounts[key] = amount
        answers.append(told)
    return answers
