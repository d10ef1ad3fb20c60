"""The document's words made as plain as can be, slow and apart from the program, and inputs to try."""

import itertools
import random

HOME = (10, "hall", 2)

# Numbers, days and the order in the list all go different ways.
PAPERS = [
    (4, 50, "attic", "hall", 5),
    (1, 20, "hall", "shop", 2),
    (9, 30, "shop", "attic", 6),
    (2, 40, "cellar", "barn", 1),
]


def by_days(papers):
    return sorted(papers, key=lambda paper: paper[1])


def chain_of(home, papers, story):
    """The home as a paper, then the papers of the story."""
    found = [(0, home[0], home[1], home[1], home[2])]
    for number in story:
        found += [paper for paper in papers if paper[0] == number]
    return found


def gaps_of(home, papers, story):
    chain = chain_of(home, papers, story)
    found = []
    for at in range(1, len(chain)):
        if chain[at - 1][3] != chain[at][2]:
            found.append((chain[at - 1][0], chain[at][0], chain[at - 1][3], chain[at][2]))
    return found


def cost_of(home, papers, prices, story):
    doubted = [paper for paper in papers if paper[0] not in story]
    return prices[0] * len(doubted) + prices[1] * len(gaps_of(home, papers, story))


def days_of(papers, story):
    days = {paper[0]: paper[1] for paper in papers}
    return [days[number] for number in story]


def all_stories(papers):
    for many in range(len(papers) + 1):
        for chosen in itertools.combinations(by_days(papers), many):
            yield [paper[0] for paper in chosen]


def slow_story(home, papers, prices):
    """The told story, all choices gone through one by one."""
    return min(
        all_stories(papers),
        key=lambda story: (cost_of(home, papers, prices, story), days_of(papers, story)),
    )


def quick_story(home, papers, prices):
    """The told story of many papers: from the last on, the best (cost, days, numbers) that begins with each."""
    doubt, gap = prices
    rising = by_days(papers)
    best = {}

    def ways(there, start):
        found = [(doubt * (len(rising) - start), [], [])]
        for at in range(start, len(rising)):
            price, days, numbers = best[at]
            price += doubt * (at - start) + (gap if there != rising[at][2] else 0)
            found.append((price, [rising[at][1]] + days, [rising[at][0]] + numbers))
        return min(found)

    for at in reversed(range(len(rising))):
        best[at] = ways(rising[at][3], at + 1)
    return ways(home[1], 0)[2]


def table_holds(home, papers, prices, bound, rows):
    """Point [4], one condition behind the other."""
    doubt, gap = prices
    chain = chain_of(home, papers, [paper[0] for paper in by_days(papers)])
    for paper in chain:
        if len([row for row in rows if row[0] == paper[0]]) != 1:
            return False
    if len(rows) != len(chain):
        return False
    worth = dict(rows)
    for at, paper in enumerate(chain):
        behind = chain[at + 1:]
        if worth[paper[0]] > doubt * len(behind):
            return False
        for between, later in enumerate(behind):
            extra = gap if paper[3] != later[2] else 0
            if worth[paper[0]] > doubt * between + extra + worth[later[0]]:
                return False
    return bound <= worth[0]


def place_on(home, papers, story, day):
    """Point [5] for one day."""
    if day < home[0]:
        return ""
    chain = chain_of(home, papers, story)
    for first, second in zip(chain, chain[1:]):
        if first[3] != second[2] and first[1] < day < second[1]:
            return ""
    return [paper for paper in chain if paper[1] <= day][-1][3]


def changes_of(home, papers, story):
    chain = chain_of(home, papers, story)
    found = []
    for first, second in zip(chain, chain[1:]):
        if first[4] != second[4]:
            place = first[3] if first[3] == second[2] else ""
            found.append((place, first[1], second[1], second[4] - first[4]))
    return found


def some_case(source, many, width=3):
    """A home, papers in any order with numbers in any order, and prices."""
    places = ["attic", "barn", "cellar", "den", "hall"][:width]
    start = source.randint(0, 5)
    home = (start, source.choice(places), source.randint(0, 9))
    days = source.sample(range(start + 1, start + 2 + 2 * many), many)
    numbers = source.sample(range(1, 3 * many + 2), many)
    papers = [
        (number, day, source.choice(places), source.choice(places), source.randint(0, 9))
        for number, day in zip(numbers, days)
    ]
    return home, papers, (source.randint(1, 9), source.randint(1, 9))


def some_cases(seed, count, most, width=3):
    source = random.Random(seed)
    return [some_case(source, source.randint(0, most), width) for turn in range(count)]


def some_ranges(source, most, top=100):
    found = []
    for turn in range(source.randint(0, most)):
        low = source.randint(0, top)
        found.append((low, source.randint(low, min(top, low + source.choice([0, 5, 40])))))
    return found


def meet(one, other):
    """Whether a dampness suits both ranges, each dampness asked."""
    return any(other[0] <= damp <= other[1] for damp in range(one[0], one[1] + 1))
