"""The numbers that tell a refusal."""

NO_SUCH_COIN = -2
NO_CHANGE = -6
NOT_BEGUN = -11
NOT_AS_TOLD = -22
TOO_MANY_COINS = -28
THERE_IS_NONE = -33
TOO_MANY_TOSSES = -75
