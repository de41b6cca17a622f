"""A second way to read texts, by regular expressions; it shares no code with the package."""

import re

NUMBER = "(?:0|[1-9][0-9]{0,30})"
PLACE = re.compile(f"({NUMBER}):({NUMBER})(?:/({NUMBER}))?")
MARCH = re.compile(f"({NUMBER}:{NUMBER}(?:/{NUMBER})?) ({NUMBER})")
ROAD = re.compile(f"road ({NUMBER}) ({NUMBER}) ({NUMBER})")
MARKS = [chr(code) for code in range(32, 127) if code != 37]


def place_in(text):
    """The numbers (road, number, parts) of a place's text, or None."""
    found = PLACE.fullmatch(text)
    if not found or (found[3] and int(found[3]) < 2):
        return None
    return (int(found[1]), int(found[2]), int(found[3] or 1))


def number_in(text):
    """The number of a text, or None."""
    return int(text) if re.fullmatch(NUMBER, text) else None


def march_in(text):
    """The pair (numbers of the goal, steps) of a march's text, or None."""
    found = MARCH.fullmatch(text)
    goal = found and place_in(found[1])
    return (goal, int(found[2])) if goal else None


def marches_in(text):
    """The marches of a row's text, or the number of the first part that is none."""
    if text == "none":
        return []
    marches = [march_in(part) for part in text.split(", ")]
    return marches.index(None) if None in marches else marches


def road_in(text):
    """The numbers of a road's text, or None."""
    found = ROAD.fullmatch(text)
    return found and tuple(int(number) for number in found.groups())


def spoilt(text, marks):
    """The text with one character inserted, removed or replaced, anywhere."""
    for at in range(len(text) + 1):
        for mark in marks:
            yield text[:at] + mark + text[at:]
            if at < len(text):
                yield text[:at] + mark + text[at + 1:]
        if at < len(text):
            yield text[:at] + text[at + 1:]
