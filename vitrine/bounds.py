"""What the document bounds: names, words, days and numbers, and how many of each a house may have.

Each check refuses what lies beyond, so that a deed can write its refusals one behind the other.
"""

from vitrine.errors import BadCount, BadDay, BadGrade, BadKind, BadLimit, BadName, BadPrice, BadRange, BadWord, Full

LONGEST_NAME = 8
LAST_DAY = 10 ** 9
WORST_GRADE = 9
LEAST_PRICE = 1
MOST_PRICE = 9
LEAST_DAMP = 0
MOST_DAMP = 100
MOST_LIMIT = 10 ** 6
LEAST_SIZE = 1
MOST_SIZE = 12
LONGEST_SHOW = 30

MOST_PLACES = 12
MOST_THINGS = 12
MOST_PAPERS = 60
MOST_BARS = 20
MOST_SHOWS = 8

WORDS = ("lit", "dark", "bench", "out")


def is_name(text):
    """Whether the text is one to eight small letters."""
    return 1 <= len(text) <= LONGEST_NAME and all(["a" <= sign <= "z" for sign in text])


def check_name(name):
    """Refuses what is no name."""
    if not is_name(name):
        raise BadName(f"{name!r} is no name")


def check_kind(kind):
    """Refuses a kind that is no name."""
    if not is_name(kind):
        raise BadKind(f"{kind!r} is no kind")


def check_word(word):
    """Refuses a word that no place may have."""
    if word not in WORDS:
        raise BadWord(f"{word!r} is no word of a place")


def check_day(day):
    """Refuses a number that is no day."""
    if not 0 <= day <= LAST_DAY:
        raise BadDay(f"{day} is no day")


def check_days(first, last):
    """Refuses two days of which the last is ahead of the first."""
    check_day(first)
    check_day(last)
    if last < first:
        raise BadRange(f"{last} is ahead of {first}")


def check_show_days(first, last):
    """Refuses days that no show can have."""
    check_days(first, last)
    if last - first + 1 > LONGEST_SHOW:
        raise BadRange(f"{first} to {last} are more than {LONGEST_SHOW} days")


def check_damps(low, high):
    """Refuses two numbers that are no range of dampnesses."""
    if not LEAST_DAMP <= low <= high <= MOST_DAMP:
        raise BadRange(f"{low} to {high} is no range")


def check_limit(limit):
    """Refuses a number that is no limit of light."""
    if not 0 <= limit <= MOST_LIMIT:
        raise BadLimit(f"{limit} is no limit")


def check_grade(grade):
    """Refuses a number that is no grade."""
    if not 0 <= grade <= WORST_GRADE:
        raise BadGrade(f"{grade} is no grade")


def check_size(size):
    """Refuses a number that is no size of a show."""
    if not LEAST_SIZE <= size <= MOST_SIZE:
        raise BadCount(f"{size} is no size of a show")


def check_price(price):
    """Refuses a number that is no price."""
    if not LEAST_PRICE <= price <= MOST_PRICE:
        raise BadPrice(f"{price} is no price")


def check_room(count, most):
    """Refuses one more where there are as many as there may be."""
    if count >= most:
        raise Full(f"there are {count} already")
