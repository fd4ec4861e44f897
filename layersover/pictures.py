"""The calls on one picture, read from one list of whole numbers, and their answers."""

from layersover.changes import begin, drop_thing, lift_thing, make_flat, make_group, make_layer
from layersover.changes import open_group, paint_layer, set_how, shift_layer
from layersover.looks import list_things, look_at_dot, look_at_row, what_matters
from layersover.things import Picture

BEGIN = 1
LAYER = 2
GROUP = 3
OPEN = 4
HOW = 5
SHIFT = 6
PAINT = 7
DROP = 8
LIFT = 9
DOT = 10
ROW = 11
MATTERS = 12
LIST = 14

# How many whole numbers stand behind each call's number; of a layer its row of pixels comes behind these.
SIZES = {1: 2, 2: 4, 3: 2, 4: 1, 5: 5, 6: 3, 7: 5, 8: 1, 9: 2, 10: 2, 11: 1, 12: 2, 13: 0, 14: 0}


def answers(calls):
    return go_through(Picture(), calls)


# Apart from answers, so that a picture can be looked at behind its calls.
def go_through(picture, calls):
    given = []
    place = 0
    while place < len(calls):
        end = end_of_call(calls, place)
        answered = answer_call(picture, calls[place], calls[place + 1:end])
        given.append(len(answered))
        given.extend(answered)
        place = end
    return given


def end_of_call(calls, place):
    kind = calls[place]
    end = place + 1 + SIZES[kind]
    if kind == LAYER:
        end = end + 1 + calls[end]
    return end


# Gives a list, as looks answer more than one number; told is what stands behind the call's number.
def answer_call(picture, kind, told):
    if kind == DOT:
        return look_at_dot(picture, told[0], told[1])
    if kind == ROW:
        return look_at_row(picture, told[0])
    if kind == MATTERS:
        return what_matters(picture, told[0], told[1])
    if kind == LIST:
        return list_things(picture)
    return [answer_change(picture, kind, told)]


def answer_change(picture, kind, told):
    if kind == BEGIN:
        return begin(picture, told[0], told[1])
    if kind == LAYER:
        return make_layer(picture, told[0], told[1], told[2], told[3], told[5:])
    if kind == GROUP:
        return make_group(picture, told[0], told[1])
    if kind == OPEN:
        return open_group(picture, told[0])
    if kind == HOW:
        return set_how(picture, told[0], told[1], told[2], told[3], told[4])
    if kind == SHIFT:
        return shift_layer(picture, told[0], told[1], told[2])
    if kind == PAINT:
        return paint_layer(picture, told[0], told[1], told[2], told[3], told[4])
    if kind == DROP:
        return drop_thing(picture, told[0])
    if kind == LIFT:
        return lift_thing(picture, told[0], told[1])
    return make_flat(picture)
