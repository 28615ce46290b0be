"""The canonical text of a plan, and its signs."""

from sweeprota.plans import MOVES, SIDES, read_plan


def format_plan(plan):
    """Returns the canonical text of a plan."""
    return canonical_text(read_plan(plan))


def signs_of(plan):
    """Returns the list of the signs of a plan."""
    return list(read_plan(plan).signs)


def canonical_text(plan):
    """Returns the canonical text of a Plan."""
    signs = " ".join(plan.signs)
    moods = " ".join(plan.moods)
    lines = [f"corridor {plan.size};", f"signs {signs};", f"moods {moods};"]
    for tile, side in plan.robots:
        lines.append(f"robot {tile} {SIDES[side]};")
    for tile in sorted(plan.puts):
        # The first sign lies there without a put, too.
        if plan.puts[tile] != 0:
            lines.append(f"put {plan.signs[plan.puts[tile]]} {tile};")
    for mood, sign in sorted(plan.rules):
        lines.append(rule_line(plan, mood, sign))
    return "\n".join(lines)


def rule_line(plan, mood, sign):
    """Returns the statement of the rule for a mood and a sign."""
    new_sign, move, new_mood = plan.rules[(mood, sign)]
    seen = f"when {plan.moods[mood]} {plan.signs[sign]}"
    done = f"leave {plan.signs[new_sign]} {MOVES[move]} {plan.moods[new_mood]}"
    return f"{seen} {done};"
