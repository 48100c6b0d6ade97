"""The numbers that refusals answer, and the bound that several calls share."""

WRONG = -1
OUT_OF_TURN = -3
OTHER_TAG = -6
TOO_MUCH = -7
NOT_BEGUN = -9

MOST_BYTES = 4000
