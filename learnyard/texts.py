"""Rules as texts, written and read."""

from learnyard.errors import BadRules, BadText
from learnyard.rules import MOST_THINGS, look_rules


def written(rules):
    look_rules(rules)
    count = rules[0]
    rows = [f"things {count}"]
    rows.extend([written_way(way) for way in rules[1]])
    return "\n".join(rows)


def written_way(way):
    thing = way[0]
    return " ".join([f"{thing}:"] + [str(needed) for needed in way[1]])


def read(text):
    rows = text.split("\n")
    rules = (read_count(rows[0]), [read_way(row) for row in rows[1:]])
    try:
        look_rules(rules)
    except BadRules:
        raise BadText("what is written are no rules")
    return rules


def read_count(row):
    words = row.split(" ")
    if len(words) != 2 or words[0] != "things":
        raise BadText("the first row doesn't tell how many things there are")
    return read_number(words[1])


def read_way(row):
    words = row.split(" ")
    if not words[0].endswith(":"):
        raise BadText("a row doesn't tell a way")
    needed = tuple([read_number(word) for word in words[1:]])
    return (read_number(words[0][:-1]), needed)


def read_number(word):
    # Held against numbers as they are written: so there are no noughts ahead, no signs and no blanks.
    known = [str(number) for number in range(MOST_THINGS + 1)]
    if word not in known:
        raise BadText("this is no number of things")
    return known.index(word)
