"""Hints: the places where adding a small number changes a high part."""

from latticesign.parting import high_part


def hint_places(numbers, changes, g2):
    """The places, rising, where the high parts of a number and of it with its change differ."""
    places = []
    for place, pair in enumerate(zip(numbers, changes)):
        if high_part(pair[0], g2) != high_part(pair[0] + pair[1], g2):
            places.append(place)
    return places


def packed_hints(rows, omega):
    """The places row by row, zeros up to omega bytes, then how many there are up to each row's end."""
    places = []
    counts = []
    for row in rows:
        places.extend(row)
        counts.append(len(places))
    return places + [0] * (omega - len(places)) + counts
