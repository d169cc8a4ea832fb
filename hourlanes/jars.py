"""Jars: how many pieces of a stream may come."""

from hourlanes.errors import NoJar

LARGEST = 10 ** 9


class Jar:
    """A size, a rate and a mouth; it never changes."""

    def __init__(self, size, rate, mouth):
        if not 1 <= rate <= mouth <= size <= LARGEST:
            raise NoJar("a jar has 1 <= rate <= mouth <= size <= 10 ** 9")
        self.size = size
        self.rate = rate
        self.mouth = mouth

    def told(self):
        return (self.size, self.rate, self.mouth)

    def __eq__(self, other):
        return (isinstance(other, Jar) and self.size == other.size
                and self.rate == other.rate and self.mouth == other.mouth)

    def __str__(self):
        return f"{self.size} {self.rate} {self.mouth}"

    def __repr__(self):
        return f"Jar({self.size}, {self.rate}, {self.mouth})"
