"""What lines tell of calls in a world of a side and its partner: how many are entered, and by which picks."""

from pactford.menus import ANEW, picks_to_call, picks_to_end
from pactford.rules import Rules
from pactford.world import CALLS


def _capped(count):
    """Tell a count, or the least one that is too great: counts may have more figures than there are lines."""
    return min(count, CALLS + 1)


class Runs:
    """The runs of lines: a run of a line leads from the enter from which it comes to its fact."""

    def __init__(self, side, told):
        self._pacts = side.pacts()
        self._number = side.number()
        self._rules = Rules(side)
        self._told = list(told)
        # By line: how many calls its run enters, the entered one among them;
        # the line of its enter; of enters how many calls are entered ahead.
        self._counts = []
        self._enters = []
        self._outers = []
        for at in range(len(self._told)):
            self._reckon(at)

    def _reckon(self, at):
        """Count the calls of one more line."""
        fact, first, second = self._told[at]
        count = 1
        enter = at
        outer = 0
        if fact[0] == "enter" and self._told[first][0][0] == "wait":
            outer = self._counts[first] + self._outers[self._enters[first]]
        elif fact[0] not in ("top", "enter"):
            count = self._counts[first]
            enter = self._enters[first]
            if second is not None:
                count += self._counts[second]
            elif fact[0] == "wait" and self._rules.calls_far(fact):
                count += 1
        self._counts.append(_capped(count))
        self._enters.append(enter)
        self._outers.append(_capped(outer))

    def ends(self):
        """Tell the lines of the ends of the calls ahead of the last one, in order."""
        found = []
        first, second = self._told[self._top()][1:]
        while first is not None:
            found.append(second)
            first, second = self._told[first][1:]
        return found[::-1]

    def _top(self):
        """Tell the line of the top from which the last call is entered."""
        return self._told[self._chain()[-1]][1]

    def _chain(self):
        """Tell the lines of the enters from which the last line comes, the last entered one first."""
        found = [self._enters[-1]]
        waited = self._told[found[-1]][1]
        while self._told[waited][0][0] == "wait":
            found.append(self._enters[waited])
            waited = self._told[found[-1]][1]
        return found

    def helper(self, line):
        """Tell the helper of a line's call."""
        return self._told[line][0][1]

    def calls_to(self, line):
        """Tell how many calls the run of a line enters, at least where they are not too many."""
        return self._counts[line]

    def last_helper(self):
        """Tell the helper of the last call."""
        return self.helper(self._chain()[-1])

    def last_calls(self):
        """Tell how many calls the last call enters, at least where they are not too many."""
        return _capped(self._counts[-1] + self._outers[self._enters[-1]])

    def last_picks(self):
        """Tell the picks of the last call."""
        picks = self.picks(len(self._told) - 1)
        for enter in self._chain()[:-1]:
            waited = self._told[enter][1]
            entering = self._picks_to_enter(self._told[waited][0], self.helper(enter))
            picks = self.picks(waited) + entering + picks
        return picks

    def picks(self, line):
        """Tell the picks of the run of a line."""
        # The last pick first; tasks are lines whose runs, and picks that, come ahead of it.
        taken = []
        tasks = [line]
        while tasks:
            task = tasks.pop()
            if isinstance(task, list):
                taken.extend(task[::-1])
            elif self._told[task][0][0] != "enter":
                _, first, second = self._told[task]
                taken.extend(self._picks_behind(task)[::-1])
                tasks.append(first)
                if second is not None:
                    tasks.append(self._picks_to_enter(self._told[first][0], self.helper(second)))
                    tasks.append(second)
        return taken[::-1]

    def _picks_to_enter(self, wait, name):
        """Tell the picks that the called helper of a wait takes to call a helper of the side."""
        if not self._rules.calls_far(wait):
            return []
        return picks_to_call(self._pacts, self._rules.called(wait), name)

    def _picks_behind(self, line):
        """Tell the picks that are taken to a line at last: behind those of the lines from which it follows."""
        fact, first, second = self._told[line]
        ahead = self._told[first][0]
        if ahead[0] == "stand" and self._rules.jumps(ahead) is not None:
            return [1] if fact[3] == self._rules.jumps(ahead) else [0]
        if ahead[0] != "wait" or not self._rules.calls_far(ahead):
            return []
        return self._picks_to_end(ahead, fact) if second is None else [ANEW]

    def _picks_to_end(self, wait, fact):
        """Tell the picks that the called helper of a wait takes to end so that a fact comes behind."""
        called = self._rules.called(wait)
        for word in self._rules.far_words(called):
            if self._rules.behind(wait, word, wait[6]) == fact:
                own = self._pacts.over(word, side=self._number) if word else ""
                return picks_to_end(self._pacts, called, own)
        return []
