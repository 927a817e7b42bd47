"""The numbers of the refusals: a call that is refused answers one of them below 0."""

NO_SUCH = 2
NOT_OPEN = 6
TOO_OLD = 8
OTHER_NUMBERS = 9
NOT_BEGUN = 11
WRONG_PERSON = 12
NOT_ALLOWED = 13
NOT_HOLDING = 14
MORE_THAN_IT_HAS = 15
ALREADY = 17
WRONG_VALUE = 22
NO_MORE = 28
