"""How a call is written as numbers."""

# What a call takes, a letter each: i a party, s a set of parties, n another whole number, w a row of them.
PARTY = "i"
GROUP = "s"
ROW = "w"

# A call's number is its place here.
CALLS = (
    ("begin", "nn"),
    ("party", "nnnnnw"),
    ("seats", "in"),
    ("wants", "inn"),
    ("cares", "inn"),
    ("worth", "iw"),
    ("like", "ii"),
    ("hate", "ii"),
    ("forget", "ii"),
    ("form", "s"),
    ("leaves", "i"),
    ("resign", ""),
    ("back", ""),
    ("again", ""),
    ("vote", "s"),
    ("stands", "s"),
    ("standing", ""),
    ("tight", ""),
    ("fewest", ""),
    ("smallest", ""),
    ("part", "i"),
    ("middle", ""),
    ("joined", "s"),
    ("neighbours", ""),
    ("narrowest", ""),
    ("centre", ""),
    ("motion", "nn"),
    ("order", "s"),
    ("plain", "s"),
    ("ahead", "s"),
    ("alone", "si"),
    ("gains", "sn"),
    ("swaps", "sn"),
    ("beats", "iiii"),
    ("beaters", "ii"),
    ("unseaters", "ii"),
    ("calm", ""),
    ("holding", ""),
    ("middles", ""),
    ("strong", ""),
    ("fall", "ii"),
    ("deal", "s"),
    ("mays", ""),
    ("leave", "s"),
    ("stable", ""),
    ("on", "s"),
    ("best", "i"),
    ("governs", ""),
    ("look", "i"),
    ("state", ""),
)


class Call:
    def __init__(self, name, kinds, taken):
        self.name = name
        self.kinds = kinds
        self.taken = taken


class Reader:
    def __init__(self, numbers):
        self.numbers = numbers
        self.position = 0

    def at_end(self):
        return self.position == len(self.numbers)

    def read_number(self):
        number = self.numbers[self.position]
        self.position += 1
        return number

    def read_row(self):
        length = self.read_number()
        row = self.numbers[self.position:self.position + length]
        self.position += length
        return row

    def read_value(self, kind):
        return self.read_row() if kind == ROW else self.read_number()

    def read_call(self):
        shape = CALLS[self.read_number()]
        return Call(shape[0], shape[1], [self.read_value(kind) for kind in shape[1]])
