"""Stories of one thing: what they cost, the cheapest one, and tables that show how cheap one can be.

The home is turned into a paper with the number 0, so that one rule serves for it and for all papers.
A chain is a list of such papers, the home first, each of a later day than the one ahead of it.
"""

from vitrine.errors import BadStory

NUMBER = 0
DAY = 1
HERE = 2
THERE = 3
GRADE = 4


def home_paper(home):
    """The home as a paper by which the thing is seen where it was taken in."""
    day, place, grade = home
    return (0, day, place, place, grade)


def whole_chain(home, papers):
    """The home and all papers, in order of days."""
    return [home_paper(home)] + sorted(papers, key=lambda paper: paper[DAY])


def believed_chain(home, papers, story):
    """The home and the papers of the story; BadStory where it is no story of these papers."""
    known = {paper[NUMBER]: paper for paper in papers}
    believed = []
    for number in story:
        if number not in known:
            raise BadStory(f"no paper has the number {number}")
        paper = known[number]
        if believed and paper[DAY] <= believed[-1][DAY]:
            raise BadStory(f"paper {number} is of no later day than the one ahead of it")
        believed.append(paper)
    return [home_paper(home)] + believed


def neighbours(chain):
    """Each two of the chain that stand side by side, in order."""
    return list(zip(chain, chain[1:]))


def is_gap(first, second):
    """Whether there is a gap between two papers, were they neighbours."""
    return first[THERE] != second[HERE]


def gaps(home, papers, story):
    """The gaps of a story, as tuples (number, later number, place, here)."""
    chain = believed_chain(home, papers, story)
    return [
        (first[NUMBER], second[NUMBER], first[THERE], second[HERE])
        for first, second in neighbours(chain)
        if is_gap(first, second)
    ]


def cost(home, papers, prices, story):
    """What a story costs by its doubts and its gaps."""
    doubt, gap = prices
    return gap * len(gaps(home, papers, story)) + doubt * (len(papers) - len(story))


def end_cost(chain, prices, at):
    """What it costs to doubt all behind the one at this place."""
    doubt = prices[0]
    return doubt * (len(chain) - at - 1)


def step_cost(chain, prices, at, later):
    """What it costs to go from one place to a later one, doubting all between the two."""
    doubt, gap = prices
    between = doubt * (later - at - 1)
    if is_gap(chain[at], chain[later]):
        return between + gap
    return between


def most_worth(chain, prices, worths, at):
    """The most that the worth at this place may be, by the worths behind it."""
    steps = [step_cost(chain, prices, at, later) + worths[later] for later in range(at + 1, len(chain))]
    return min([end_cost(chain, prices, at)] + steps)


def full_worths(chain, prices):
    """For each of the chain the cost of the cheapest way on from it, which is the most it may be worth."""
    worths = [0] * len(chain)
    for at in reversed(range(len(chain))):
        worths[at] = most_worth(chain, prices, worths, at)
    return worths


def told_story(home, papers, prices):
    """The cheapest story; of several the one whose list of days is the least."""
    chain = whole_chain(home, papers)
    worths = full_worths(chain, prices)
    story = []
    at = 0
    # To end as soon as an end is cheapest, and else to take the nearest day, makes the list of days the least.
    for later in range(1, len(chain)):
        ended = worths[at] == end_cost(chain, prices, at)
        if not ended and worths[at] == step_cost(chain, prices, at, later) + worths[later]:
            story.append(chain[later][NUMBER])
            at = later
    return story


def table(home, papers, prices):
    """A table that holds for the told story's cost, in order of days."""
    chain = whole_chain(home, papers)
    return [(paper[NUMBER], worth) for paper, worth in zip(chain, full_worths(chain, prices))]


def holds(home, papers, prices, bound, rows):
    """Whether the rows are a table that holds for the bound."""
    chain = whole_chain(home, papers)
    if sorted([number for number, worth in rows]) != sorted([paper[NUMBER] for paper in chain]):
        return False
    worth_of = {number: worth for number, worth in rows}
    worths = [worth_of[paper[NUMBER]] for paper in chain]
    if bound > worths[0]:
        return False
    return all([worths[at] <= most_worth(chain, prices, worths, at) for at in range(len(chain))])
