"""Judging by texts alone."""

from standfast.errors import FrameHasProblems, InvalidChoice, InvalidLists
from standfast.frames.problems import problems
from standfast.frames.reading import read_frame
from standfast.lightest.lists import fit, weight_of, whole_box, with_choice
from standfast.lightest.trees import is_right, least_of, read_tree
from standfast.papers.codes import read_paper
from standfast.papers.ground import Site
from standfast.papers.judge import Hearing, accepts


def judge(frame_text, paper_text):
    """Return the kind of a paper, its total, and the bounds of each asked movement; or None if it is not accepted."""
    frame = sound_frame(frame_text)
    paper = read_paper(paper_text)
    site = Site(frame)
    if paper.kind != "bounds":
        return (paper.kind, None, []) if accepts(site, paper) else None
    hearing = Hearing(site, paper)
    if not hearing.is_accepted():
        return None
    total, bounds = hearing.verdict()
    return (paper.kind, total, [(asked.name, least, most) for asked, (least, most) in zip(frame.asked, bounds)])


def judge_lightest(frame_text, lists, names, paper_text, tree_text):
    """Return the weight of a frame with a choice of sections, and the least of the tree; or None."""
    frame = sound_frame(frame_text)
    if not fit(frame, lists):
        raise InvalidLists("the lists do not fit the frame")
    chosen = with_choice(frame, lists, choice_of(lists, names))
    paper = read_paper(paper_text)
    tree = read_tree(tree_text)
    if paper.kind not in ("bounds", "borne") or not accepts(Site(chosen), paper):
        return None
    weight = weight_of(chosen)
    box = whole_box(lists)
    if not is_right(frame, lists, box, weight, tree):
        return None
    return (weight, least_of(frame, lists, box, weight, tree))


def sound_frame(text):
    """Return the frame that a text describes, which must not have problems."""
    frame = read_frame(text)
    if problems(frame):
        raise FrameHasProblems("the frame has problems")
    return frame


def choice_of(lists, names):
    """Return the indices of the sections with these names, one for each list."""
    if len(names) != len(lists):
        raise InvalidChoice("there is not one name for each list")
    choice = []
    for (_, sections), name in zip(lists, names):
        if name not in sections:
            raise InvalidChoice("a name is not in its list")
        choice.append(list(sections).index(name))
    return choice
