"""The words that a procedure answers, by what they say."""

WELL = 0
NOT_THEIRS = 1
NOT_THERE = 2
MAY_NOT = 13
IS_THERE = 17
NO_FOLDER = 20
IS_FOLDER = 21
WRONG = 22
TOO_LARGE = 27
NO_ROOM = 28
NAME_TOO_LONG = 63
NOT_EMPTY = 66
NONE_NOW = 70
