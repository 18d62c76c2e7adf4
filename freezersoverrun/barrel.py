"""What's in a barrel: a list of parts (flavour, kilograms), the first to come out first."""


def weight(parts):
    """How many kilograms the parts have together."""
    return sum([part[1] for part in parts])


def feed(parts, flavour, kilograms):
    """Put so much of a flavour behind the parts; behind its own kind it's one part with it."""
    if parts and parts[-1][0] == flavour:
        parts[-1] = (flavour, parts[-1][1] + kilograms)
    else:
        parts.append((flavour, kilograms))


def draw(parts, kilograms):
    """Take so many kilograms out at the front, and give back the parts that came."""
    came = []
    wanted = kilograms
    while wanted > 0:
        flavour = parts[0][0]
        there = parts[0][1]
        taken = min(there, wanted)
        if taken == there:
            parts.pop(0)
        else:
            parts[0] = (flavour, there - taken)
        came.append((flavour, taken))
        wanted -= taken
    return came
