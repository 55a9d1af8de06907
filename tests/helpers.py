"""What several tests use."""

from oldmap.following import final_states
from oldmap.islands import Island
from oldmap.maps import Map


def raised(kind, call, *told):
    """The error of exactly this class that a call raises."""
    try:
        call(*told)
    except Exception as error:
        if error.__class__ is kind:
            return error
        raise AssertionError(f"{error!r} instead of {kind.__name__}")
    raise AssertionError(f"no {kind.__name__}")


def led(rows, facing, *instructions):
    """The states to which instructions lead from the cells with the sign A."""
    return final_states(Map(Island(rows), "A", (facing,), list(instructions)))
