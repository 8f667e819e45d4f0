"""What stops a call on its way."""


# answered as -2: the bytes drawn from hold too few numbers that may be taken
class ChanceTooShort(Exception):
    pass


# answered as -2: none of the tries gave a signature that may be shown
class AllTriesRejected(Exception):
    pass
