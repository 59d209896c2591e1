"""The numbers by which a call is refused."""

NO_SUCH = -2
NOTHING = -6
NOT_BEGUN = -11
LAID_DOWN = -16
LAID_ALREADY = -17
WRONG = -22
TOO_MANY = -28
CANNOT = -33
