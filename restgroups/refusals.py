"""What calls are refused with, and what they are refused by."""

NOT_BEGUN = -61
NOT_THERE = -2
WRONG = -22
OWN_GROUP = -17
NOTHING_TO_DO = -6
NONE_SUCH = -33

MOST_PEOPLE = 5
MOST_WORTH = 20
LAST_WAY = 2
LAST_LEAVING = 1
LAST_BEST = 1
LAST_KIND = 4
