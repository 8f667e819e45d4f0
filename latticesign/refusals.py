"""What stops a call on its way."""


# answered as -2: the bytes drawn from hold too few numbers that may be taken
class ChanceTooShort(Exception):
    pass
