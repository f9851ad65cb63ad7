"""The calls on camera sheets: each takes values and answers one list of whole numbers.

What may be refused is tried in the order of the refusals: the first that fits is answered.
"""

from fieldsheets.checks import check_steps, check_view
from fieldsheets.dials import least_and_greatest, value_at
from fieldsheets.easing import eased
from fieldsheets.reading import check_dial_name, read_text
from fieldsheets.refusals import NotASheet, NotThere, TooLong, WrongInput
from fieldsheets.rows import read_levels, read_named_sheets
from fieldsheets.seeing import looked_at, seen, seen_at_frame
from fieldsheets.sheets import check_frame, find_dial, find_move


def counted(part):
    """What is answered as bytes: how many there are, then they."""
    return [len(part)] + part


def judge(t):
    """[0] for a camera sheet's text; else [-2], or [-6, fault]."""
    try:
        read_text(t)
    except TooLong as e:
        return [e.refusal]
    except NotASheet as e:
        return [e.refusal, e.fault]
    return [0]


def sizes(t):
    """[N, W, H, how many dials]; else [-2] or [-6]."""
    try:
        sheet = read_text(t)
    except (TooLong, NotASheet) as e:
        return [e.refusal]
    return [sheet.frames, sheet.width, sheet.height, len(sheet.dials)]


def name(k, t):
    """How many bytes dial k's name has, then they; else [-2], [-6] or [-4]."""
    try:
        found = find_dial(read_text(t), k)
    except (TooLong, NotASheet, NotThere) as e:
        return [e.refusal]
    return counted(found.name)


def dial(k, t):
    """[dial k's first value, how many moves]; else [-2], [-6] or [-4]."""
    try:
        found = find_dial(read_text(t), k)
    except (TooLong, NotASheet, NotThere) as e:
        return [e.refusal]
    return [found.first, len(found.moves)]


def move(k, i, t):
    """[F, T, V, ease] of move i of dial k; else [-2], [-6] or [-4]."""
    try:
        found = find_move(find_dial(read_text(t), k), i)
    except (TooLong, NotASheet, NotThere) as e:
        return [e.refusal]
    return list(found)


def value(f, t, s):
    """[the value at frame f of the dial called s]; else [-1], [-2], [-6] or [-4]."""
    try:
        check_dial_name(s)
        sheet = read_text(t)
        check_frame(sheet, f)
    except (WrongInput, TooLong, NotASheet, NotThere) as e:
        return [e.refusal]
    return [value_at(sheet, s, f)]


def range_of(t, s):
    """[least value, its first frame, greatest value, its first frame] of the dial called s; else [-1], [-2] or [-6]."""
    try:
        check_dial_name(s)
        sheet = read_text(t)
    except (WrongInput, TooLong, NotASheet) as e:
        return [e.refusal]
    return least_and_greatest(sheet, s)


def ease(e, n, i, a, b):
    """[the value at step i of n on the way from a to b, eased by e]; else [-1]."""
    try:
        check_steps(e, n, i, a, b)
    except WrongInput as refused:
        return [refused.refusal]
    return [eased(e, n, i, a, b)]


def see(cx, cy, zoom, width, height, l):
    """How many points the field has, then the paint that's seen at each; else [-1]."""
    try:
        check_view(zoom, width, height)
        levels = read_levels(l)
    except WrongInput as e:
        return [e.refusal]
    return counted(seen(levels, looked_at(cx, width, zoom), looked_at(cy, height, zoom)))


def shot(f, t, l):
    """How many points the field has, then the paint that's seen at each at frame f; else [-1], [-2], [-6] or [-4]."""
    try:
        named_sheets = read_named_sheets(l)
        sheet = read_text(t)
        check_frame(sheet, f)
    except (WrongInput, TooLong, NotASheet, NotThere) as e:
        return [e.refusal]
    return counted(seen_at_frame(sheet, f, named_sheets))
