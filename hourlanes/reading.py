"""Plans as texts, and texts read as plans."""

from hourlanes.errors import NoJar, NoText
from hourlanes.jars import Jar
from hourlanes.plans import Plan

FIGURES = 10
# A stream's row has its word, its name and the three numbers of its jar ahead of its legs.
LEGS_FROM = 5


def written(plan):
    rows = [f"lane {name} {width}\n" for name, width in plan.lanes]
    rows += [f"stream {name} {jar} {written_way(way)}\n" for name, jar, way in plan.streams]
    return "".join(rows)


def written_way(way):
    return " ".join([f"{lane} {wait}" for lane, wait in way])


def plan_of(text):
    lanes = []
    streams = []
    for row, line in enumerate(text.split("\n")):
        words = words_of(line)
        if is_lane_row(words):
            lanes.append((words[1], int(words[2])))
        elif is_stream_row(words):
            streams.append((words[1], jar_of(words, row), way_of(words[LEGS_FROM:])))
        elif words:
            raise NoText(row)
    return Plan(lanes, streams)


def words_of(line):
    return [word for word in line.split(" ") if word]


def is_number(word):
    return (1 <= len(word) <= FIGURES and word[0] != "0"
            and all(["0" <= figure <= "9" for figure in word]))


def is_lane_row(words):
    return len(words) == 3 and words[0] == "lane" and is_number(words[2])


def is_stream_row(words):
    if len(words) < LEGS_FROM or words[0] != "stream":
        return False
    return all([is_number(word) for word in words[2:LEGS_FROM]]) and are_legs(words[LEGS_FROM:])


def are_legs(words):
    return len(words) >= 2 and len(words) % 2 == 0 and all([is_number(wait) for wait in words[1::2]])


def jar_of(words, row):
    size, rate, mouth = [int(word) for word in words[2:LEGS_FROM]]
    try:
        return Jar(size, rate, mouth)
    except NoJar:
        raise NoText(row) from None


def way_of(words):
    return [(lane, int(wait)) for lane, wait in zip(words[::2], words[1::2])]
