"""The calls by their numbers, what each is handed, and whether that is within its range."""

# The call's name, then the kinds of its arguments, in the order in which they are handed in.
CALLS = {
    0: ("new",),
    1: ("begin", "slot", "strict"),
    2: ("insert", "slot", "table", "content"),
    3: ("change", "slot", "table", "row", "content"),
    4: ("remove", "slot", "table", "row"),
    5: ("see", "slot", "table", "row"),
    6: ("scan", "slot", "table", "row", "scan most"),
    7: ("point", "slot"),
    8: ("back", "slot", "k"),
    9: ("release", "slot", "k"),
    10: ("ready", "slot", "most"),
    11: ("settle", "slot", "kept"),
    12: ("end", "slot"),
    13: ("sweep",),
    14: ("replay", "group"),
    15: ("picture", "most"),
    16: ("restore", "picture"),
    17: ("told",),
}

# A kind that has no range here, k, may be any number: whether it is there is the call's own affair.
RANGES = {
    "slot": (0, 15),
    "strict": (0, 1),
    "table": (0, 63),
    "row": (0, 65535),
    "scan most": (0, 65536),
    "most": (0, 2147483647),
    "kept": (0, 1),
}

# These kinds are bytes, handed in with how many they are ahead of them.
LONGEST = {"content": 16384, "group": 67108864, "picture": 67108864}


class Reader:
    """Goes through a list of calls from its beginning, and leaves the list as it is."""

    def __init__(self, calls):
        self.calls = calls
        self.at = 0

    def is_done(self):
        return self.at >= len(self.calls)

    def take_number(self):
        number = self.calls[self.at]
        self.at += 1
        return number

    def take_bytes(self):
        many = self.take_number()
        start = self.at
        self.at += many
        return tuple(self.calls[start:self.at])

    def take_arguments(self, kinds):
        given = []
        for kind in kinds:
            given.append(self.take_bytes() if kind in LONGEST else self.take_number())
        return given


def fits(kind, value):
    if kind in LONGEST:
        return len(value) <= LONGEST[kind]
    if kind in RANGES:
        return RANGES[kind][0] <= value <= RANGES[kind][1]
    return True


def all_fit(kinds, given):
    for kind, value in zip(kinds, given):
        if not fits(kind, value):
            return False
    return True
