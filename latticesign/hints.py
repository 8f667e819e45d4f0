"""Hints: the places where adding a small number changes a high part."""

from latticesign.parting import high_part, hinted_high_part


def hint_places(numbers, changes, g2):
    """The places, rising, where the high parts of a number and of it with its change differ."""
    places = []
    for place, pair in enumerate(zip(numbers, changes)):
        if high_part(pair[0], g2) != high_part(pair[0] + pair[1], g2):
            places.append(place)
    return places


def packed_hints(rows, omega):
    """The places row by row, zeros up to omega bytes, then how many there are up to each row's end."""
    places = []
    counts = []
    for row in rows:
        places.extend(row)
        counts.append(len(places))
    return places + [0] * (omega - len(places)) + counts


def is_rising(places):
    return all([place < following for place, following in zip(places, places[1:])])


def unpacked_hints(data, omega):
    """Each row's places, or None if they aren't packed just so."""
    counts = data[omega:]
    if counts != sorted(counts) or counts[-1] > omega:
        return None
    rows = [data[start:end] for start, end in zip([0] + counts, counts)]
    if not all([is_rising(row) for row in rows]) or any(data[counts[-1]:omega]):
        return None
    return rows


def hinted_highs(numbers, places, g2):
    """The high parts, at these places the ones that the hints lead to."""
    highs = [high_part(number, g2) for number in numbers]
    for place in places:
        highs[place] = hinted_high_part(numbers[place], g2)
    return highs
