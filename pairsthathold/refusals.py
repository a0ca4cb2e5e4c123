"""The numbers that stand for a refusal."""

NOT_THERE = -2
ALONE = -6
NOT_ON_LIST = -6
PAIRED = -16
WRONG = -22
NOT_SO = -33
