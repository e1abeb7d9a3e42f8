"""Partners of sides, and the roads of calls to their breaks."""

from pactford.errors import NoLines, TooLong
from pactford.lines import is_lines
from pactford.menus import menu
from pactford.outside import check_sides
from pactford.papers import paper
from pactford.runs import Runs
from pactford.side import Side
from pactford.world import CALLS


def partner(side):
    """Tell a side for the other number that does to this one whatever picks ask for."""
    pacts = side.pacts()
    number = 1 - side.number()
    return Side(pacts, number, {name: menu(pacts, name) for name in pacts.names(number)})


def road(side, told):
    """Tell the calls that lead a world of a side and its partner to the break of lines of the side."""
    if not is_lines(side, told):
        raise NoLines("no lines of that side for an empty shelf")
    runs = Runs(side, told)
    ends = runs.ends()
    counts = [*[runs.calls_to(end) for end in ends], runs.last_calls()]
    if max(counts) > CALLS:
        raise TooLong("a call of the road would enter too many")
    calls = [(runs.helper(end), runs.picks(end)) for end in ends]
    return [*calls, (runs.last_helper(), runs.last_picks())]


def linked(near, far):
    """Tell whether both sides have a paper for an empty shelf."""
    check_sides(near, far)
    return paper(near) is not None and paper(far) is not None
