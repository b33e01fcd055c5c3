"""What one object keeps from call to call."""

from restgroups.standing import Liking, Standing

MOST_TAKEN_BACK = 10


class Kept:
    """People's worths to one another, their groups, the moves made, and what was ahead of the last changes.

    worths[i][j] is what j is worth to i. Worths and groups are never changed in place:
    a change hands over new lists, so the past may hold the old ones as they are.
    """

    def __init__(self):
        self.worths = []
        self.groups = []
        self.made = 0
        self.past = []

    def begin_anew(self, n):
        self.worths = [[0] * n for i in range(n)]
        self.groups = list(range(n))
        self.made = 0
        self.past = []

    def is_begun(self):
        return len(self.groups) > 0

    def is_person(self, i):
        return i < len(self.groups)

    def remember(self):
        past = self.past + [(self.worths, self.groups, self.made)]
        self.past = past[-MOST_TAKEN_BACK:]

    def change_worths(self, worths):
        self.remember()
        self.worths = worths

    def lay_groups(self, groups):
        """Groups that are told, not moved to: the moves are counted anew."""
        self.remember()
        self.groups = groups
        self.made = 0

    def move_to(self, groups):
        self.remember()
        self.groups = groups
        self.made = self.made + 1

    def take_back(self):
        last = self.past[-1]
        self.past = self.past[:-1]
        self.worths = last[0]
        self.groups = last[1]
        self.made = last[2]


def liking_of(kept):
    return Liking(kept.worths)


def standing_of(kept):
    return Standing(liking_of(kept), kept.groups)
