"""Structures and papers for tests, some by chance."""

import random

from standfast.frames.problems import problems
from standfast.frames.reading import read_frame
from standfast.frames.writing import write_frame
from standfast.papers.yielding import YieldPaper
from standfast.ratios import ratio
from standfast.structure.build import build


def structure(text):
    """The structure of a frame, which has no problems."""
    frame = read_frame(text)
    assert problems(frame) == [], problems(frame)
    return build(frame)


def whole(*numbers):
    return tuple(ratio(n) for n in numbers)


def some_ratio(chance):
    return ratio(chance.randint(-6, 6), chance.choice((1, 1, 2, 3, 10)))


def some_range(chance):
    first, second = sorted(chance.randint(-2, 2) for _ in range(2))
    return f"{first}/8 {second}/8"


def some_frame(chance):
    """A frame without problems, by chance."""
    lines = ["section s stiff 40 40 pull 3 push 4", some_section(chance)]
    names = "abcd"[:chance.randint(2, 4)]
    places = chance.sample([(x, y) for x in range(4) for y in range(4)], len(names))
    for name, (x, y) in zip(names, places):
        held = [chance.choice(("", f" {way}", f" {way} {some_range(chance)}")) for way in "xy"]
        lines.append(f"joint {name} {x} {y}" + "".join(held))
    members = "mnopq"[:chance.randint(1, 5)]
    for name in members:
        line = f"member {name} {' '.join(chance.sample(names, 2))} {chance.choice('stt')}"
        lines.append(line + chance.choice(("", f" error {some_range(chance)}")) + chance.choice(("", " losable")))
    lines.append(chance.choice(("gravity 0 -1", "gravity 1/2 3", "")))
    lines.append("dead" + some_loads(chance, names, members))
    for name in ("g", "h")[:chance.randint(0, 2)]:
        lines.append(f"group {name}")
        lines += ["case" + some_loads(chance, names, members) for _ in range(chance.randint(1, 3))]
    losable = sum(line.endswith("losable") for line in lines)
    lines.append(f"lose {chance.randint(0, min(2, losable))} blow {chance.choice(('1', '2', '5/2', '4'))}")
    frame = read_frame("\n".join(lines))
    assert problems(frame) == [], problems(frame)
    return frame


def some_section(chance):
    soft, weak = chance.randint(10, 90), chance.randint(1, 6)
    line = f"section t stiff {soft} {soft + chance.choice((0, 7, 30))} pull {chance.randint(0, 9)}"
    line += f" push {chance.randint(1, 9)} factor {weak}/6 {weak + chance.choice((0, 1))}/6"
    line += chance.choice(("", " breaks pull", " breaks push", " breaks both"))
    return line + chance.choice(("", " weight 1/3", " weight 2"))


def some_loads(chance, joints, members):
    loads = [f" at {name} {chance.randint(-3, 3)} {chance.randint(-3, 3)}" for name in joints + joints]
    loads += [f" heat {name} {chance.randint(-2, 2)}/9" for name in members + members]
    return "".join(chance.sample(loads, chance.randint(0, 4)))


def some_pair(chance, made):
    """Forces and movements by chance, at times too few or too many."""
    forces, movements = ([some_ratio(chance) for _ in range(max(0, many + chance.choice((-1, 0, 0, 1))))]
                         for many in (len(made.rows), len(made.free)))
    return (tuple(forces), tuple(movements))


def some_pairs(chance, made):
    """Pairs for the loads of all groups by chance, at times too few or too many."""
    groups = []
    for loads in made.groups:
        groups.append([some_pair(chance, made) for _ in range(max(0, len(loads) + chance.choice((-1, 0, 0, 1))))])
    return groups[:max(0, len(groups) - chance.choice((0, 0, 1)))]


def some_paper(chance, made):
    """A YieldPaper by chance."""
    return YieldPaper(some_pair(chance, made), some_pairs(chance, made), ratio(chance.randint(1, 5), 4))


def some_truss(chance):
    """A frame without problems by chance: a free joint or two, held by bars to joints that are held."""
    lines = ["section s stiff 80 100 pull 20 push 17 factor 9/10 1", "section w stiff 9 10 pull 1/2 push 1/3",
             f"section t stiff 40 {chance.choice((40, 60))} pull {chance.randint(2, 9)} push {chance.randint(2, 9)} "
             f"factor 1 {chance.choice(('1', '11/10'))}" + chance.choice(("", "", " breaks push", " breaks pull"))]
    lines += ["joint a 0 0 x y", "joint b 4 0 x y", "joint c 0 3 x y" + chance.choice(("", " -1/400 1/400")),
              "joint d 3 3", "joint e 1 5" + chance.choice((" x y", " x y", ""))]
    ends = chance.sample(["a d", "d b", "c d", "e d", "b c"], chance.randint(2, 5))
    if lines[-1].endswith("5"):
        ends = chance.sample(["a d", "d b", "c d"], 2) + ["a e", "c e", "e d"][:chance.randint(2, 3)]
    # Weak bars beside others: what is left behind their loss can bear the blow.
    weak = [chance.choice(ends) for _ in range(chance.randint(0, 2))]
    names = [f"m{k}" for k in range(len(ends + weak))]
    for name, both in zip(names, ends + weak):
        section = "w" if int(name[1:]) >= len(ends) else chance.choice("ssst")
        line = f"member {name} {both} {section}" + chance.choice(("", " error -1/900 1/800"))
        lines.append(line + (" losable" if section == "w" or chance.random() < 0.1 else ""))
    lines.append("dead" + chance.choice(("", " at d 1 -1", " at d 0 -2", " at e 1 0")))
    for group in ("g", "h")[:chance.randint(0, 2)]:
        lines.append(f"group {group}")
        for _ in range(chance.randint(1, 2)):
            lines.append("case" + chance.choice((" at d 1 0", " at d -1/2 1", " at e 0 1", f" heat {names[0]} 1/300", "",
                                                 f" at d 0 -{chance.randint(1, 6)}")))
    losable = sum(line.endswith("losable") for line in lines)
    lines.append(f"lose {chance.randint(0, min(2, losable))} blow {chance.choice(('1', '2', '5/2'))}")
    lines += ["ask p d 1 0", "ask q d 1/2 -1"][:chance.randint(0, 2)]
    frame = read_frame("\n".join(lines))
    assert problems(frame) == [], problems(frame)
    return frame


def some_frames(seed, many):
    """Frames by chance: loose ones at times, and trusses."""
    chance = random.Random(seed)
    return [chance.choice((some_frame, some_truss, some_truss))(chance) for _ in range(many)]


def some_lists(chance, frame):
    """Lists that fit a frame, by chance."""
    names = [member.name for member in frame.members] + ["nobody"]
    sections = [section.name for section in frame.sections]
    return [(chance.sample(names, chance.randint(0, len(names))), chance.choices(sections, k=chance.randint(1, 3)))
            for _ in range(chance.randint(0, 3))]


def without_gravity(frame):
    """A frame without its gravity, and with sections that weigh something."""
    text = "".join(line for line in write_frame(frame).splitlines(True) if not line.startswith("gravity"))
    return read_frame(text + "section u stiff 50 60 pull 4 push 3 weight 1/3\nsection v stiff 300 350 pull 30 push 25 "
                      "factor 9/10 1 weight 2\n")
