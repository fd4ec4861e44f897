"""The calls that look at a picture and leave it as it is. Each answers a list; a refusal is one number below 0."""

from layersover.dots import in_lowest_terms, is_same
from layersover.refusals import BAD_NUMBER
from layersover.seen import dot_of_picture, shown_row
from layersover.things import all_things


def has_pixel(picture, x, y):
    return x < picture.width and y < picture.height


def look_at_dot(picture, x, y):
    if not has_pixel(picture, x, y):
        return [BAD_NUMBER]
    return [0] + in_lowest_terms(dot_of_picture(picture, x, y, None))


def look_at_row(picture, y):
    if y >= picture.height:
        return [BAD_NUMBER]
    return [picture.width] + shown_row(picture, y)


def what_matters(picture, x, y):
    if not has_pixel(picture, x, y):
        return [BAD_NUMBER]
    dot = dot_of_picture(picture, x, y, None)
    numbers = [number for number in all_numbers(picture)
               if not is_same(dot, dot_of_picture(picture, x, y, number))]
    return [len(numbers)] + numbers


def list_things(picture):
    return [len(picture.things)] + all_numbers(picture)


def all_numbers(picture):
    return [thing.number for thing in all_things(picture)]
