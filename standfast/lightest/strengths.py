"""What parts bear at most with sections."""

from standfast.ratios import ZERO, negative, over, plus, sign, times


def lengths_along(part, strain):
    """Return by how much a part becomes longer and shorter by a strain, divided by low: one of them is 0."""
    along = over(strain, part.low)
    return (along, ZERO) if sign(along) > 0 else (ZERO, negative(along))


def cost_with(section, longer, shorter):
    """Return what parts bear at most with a section, times lengths that are divided by low."""
    return times(section.factor[1], plus(times(section.pull, longer), times(section.push, shorter)))


def borne_by(part, section):
    """Return what both sides of a part bear at most with a section."""
    return [over(times(section.factor[1], strength), part.low) for strength in (section.pull, section.push)]
