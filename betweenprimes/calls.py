"""The numbers that calls and refusals go by."""

BEGIN = 0
EXCHANGE = 1
NEXT = 2
FOLD = 3
FOLDS = 4
FOLDEDALL = 5
COLUMN = 6
ROW = 7
UNDER = 8
OVER = 9
INSIDE = 10
PLACE = 11
WHERE = 12
PAIRS = 13
LONG = 14
FEWEST = 15
ROUND = 16
DEALT = 17
DEALTTO = 18
DEALTPAIRS = 19
TOLD = 20

# How many arguments each call has, by its number.
ARGUMENTS = (2, 0, 0, 2, 1, 1, 1, 1, 0, 0, 2, 2, 2, 1, 1, 1, 2, 1, 1, 0, 0)

NOT_BEGUN = -11
REFUSED = -22
NO_NEXT = -33
