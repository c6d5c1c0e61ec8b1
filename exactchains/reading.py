"""Reading a list of calls, number by number."""

# The name of each operation, at the place of its number; how many whole
# numbers a call of it has; and how many rows come behind these.
OPERATIONS = (
    ("create", 2, 0),
    ("set_weight", 3, 0),
    ("set_row", 1, 1),
    ("remove_state", 1, 0),
    ("uniformize", 1, 0),
    ("embed", 0, 0),
    ("lump", 0, 1),
    ("get_weight", 2, 0),
    ("probability", 2, 0),
    ("generator", 2, 0),
    ("classes", 0, 0),
    ("class_info", 1, 0),
    ("distance", 2, 0),
    ("stationary", 1, 0),
    ("hitting_probability", 1, 1),
    ("hitting_time", 1, 1),
    ("absorption", 1, 0),
    ("return_time", 1, 0),
    ("visits", 2, 0),
    ("long_run", 1, 0),
    ("after_steps", 1, 1),
    ("is_reversible", 1, 0),
    ("reversed", 2, 0),
    ("is_lumpable", 0, 1),
    ("watched", 2, 1),
    ("summary", 0, 0),
)


class Call:
    """One call: the name of its operation, and its arguments in order, a row as one list."""

    def __init__(self, name, arguments):
        self.name = name
        self.arguments = arguments


class Reader:
    """Goes through a list of calls without changing it."""

    def __init__(self, numbers):
        self.numbers = numbers
        self.place = 0

    def at_end(self):
        """Whether no call is left."""
        return self.place >= len(self.numbers)

    def take_number(self):
        """The number that is next."""
        number = self.numbers[self.place]
        self.place += 1
        return number

    def take_row(self):
        """The row that is next: how many numbers it has, then these."""
        length = self.take_number()
        return [self.take_number() for place in range(length)]

    def take_call(self):
        """The call that is next."""
        operation = OPERATIONS[self.take_number()]
        arguments = []
        for place in range(operation[1]):
            arguments.append(self.take_number())
        for place in range(operation[2]):
            arguments.append(self.take_row())
        return Call(operation[0], arguments)
