"""Charts as texts."""

from oldmap.texts import FACINGS, chart_parts, chart_with


def format_map(chart):
    """The text of a chart."""
    begin = ["from", chart.signs] + [FACINGS[facing] for facing in chart.facings]
    rows = ["island"] + list(chart.island.rows) + [" ".join(begin)]
    return "\n".join(rows + [_instruction_row(instruction) for instruction in chart.instructions])


def parse_map(text):
    """The chart of such a text."""
    return chart_with(chart_parts(text.split("\n")))


def _instruction_row(instruction):
    words = []
    for part in instruction:
        words.extend([str(turn) for turn in part] if isinstance(part, tuple) else [str(part)])
    return " ".join(words)
