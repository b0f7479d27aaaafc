"""The numbers that calls and refusals go by."""

BEGIN = 0
EXCHANGE = 1
NEXT = 2
FOLD = 3
FOLDS = 4
FOLDEDALL = 5
COLUMN = 6
ROW = 7
UNDER = 8
OVER = 9
INSIDE = 10

# How many arguments each call has, by its number. Before a begin every call
# is read and answered, so all are here, whichever are built.
ARGUMENTS = (2, 0, 0, 2, 1, 1, 1, 1, 0, 0, 2, 2, 2, 1, 1, 1, 2, 1, 1, 0, 0)

NOT_BEGUN = -11
REFUSED = -22
NO_NEXT = -33
