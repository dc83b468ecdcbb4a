"""Logarithms of ratios, from their powers: whole numbers that tell which one of two ratios is greater."""

# the logarithms of the primes, times ten to the 50th
LOGS = (
    69314718055994530941723212145817656807550013436025,
    109861228866810969139524523692252570464749055782274,
    160943791243410037460075933322618763952560135426851,
    194591014905531330510535274344317972963708472958186,
    239789527279837054406194357796512929982170685393741,
    256494935746153673605348744156531860480526794476020,
)

# logarithms may be wrong by so much, if the powers are such that a numerator can be written down at all
SLACK = 1000000000000


def log_of(powers):
    """The logarithm of the ratio with these powers, times ten to the 50th."""
    return sum([power * log for power, log in zip(powers, LOGS)])
