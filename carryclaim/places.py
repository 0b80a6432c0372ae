"""Paths and places of statements, and where a run goes on (sections 14 and 15 of the document)."""

from carryclaim.programs import find_procedure, inner_blocks

# Far more digits than an index can have: Python's int refuses texts of thousands of digits.
LONGEST_INDEX = 9


def places(program, name):
    """Return the places of a procedure, in the order of the text."""
    paths = block_paths(procedure_block(program, name), ())
    return ("in",) + tuple([place_of(path) for path in paths]) + ("out",)


def statement_at(program, name, place):
    """Return the statement with this place, or None if there is none."""
    path = path_of(place)
    if path is None:
        return None
    return statement_with(procedure_block(program, name), path)


def first_place(program, name):
    """Return the place where a call of the procedure begins."""
    if procedure_block(program, name) == ():
        return "out"
    return place_of((0,))


def next_place(program, name, place):
    """Return the place where a run goes on behind the statement at this place."""
    return place_behind(procedure_block(program, name), path_of(place))


def block_place(program, name, place, index):
    """Return the place where a run goes on in a block of the statement at this place."""
    block = procedure_block(program, name)
    path = path_of(place)
    first = path + (index, 0)
    if statement_with(block, first) is not None:
        return place_of(first)
    if statement_with(block, path)[0] == "while":
        return place
    return place_behind(block, path)


def procedure_block(program, name):
    return find_procedure(program, name)[2]


def place_of(path):
    return ".".join([str(index) for index in path])


def path_of(place):
    """Return the path with this text, or None if the text is not that of a path."""
    parts = place.split(".")
    if all([is_index(part) for part in parts]):
        return tuple([int(part) for part in parts])
    return None


def is_index(part):
    """Tell whether a part of a place is a number as place_of writes it."""
    return part.isdigit() and len(part) <= LONGEST_INDEX and part == str(int(part))


def block_paths(block, around):
    """Return the paths of all statements in a block, which has the path around in front of its indexes."""
    found = []
    for index, statement in enumerate(block):
        path = around + (index,)
        found.append(path)
        for number, inner in enumerate(inner_blocks(statement)):
            found.extend(block_paths(inner, path + (number,)))
    return found


def statement_with(block, path):
    """Return the statement that has this path in a procedure's block, or None."""
    if path == () or not 0 <= path[0] < len(block):
        return None
    statement = block[path[0]]
    if len(path) == 1:
        return statement
    blocks = inner_blocks(statement)
    if not 0 <= path[1] < len(blocks):
        return None
    return statement_with(blocks[path[1]], path[2:])


def block_with(block, around):
    """Return the block whose statements have these integers in front of their indexes, or None."""
    if around == ():
        return block
    statement = statement_with(block, around[:-1])
    if statement is None or not 0 <= around[-1] < len(inner_blocks(statement)):
        return None
    return inner_blocks(statement)[around[-1]]


def path_after(path):
    """Return the path of the next statement of a block, if there is one."""
    return path[:-1] + (path[-1] + 1,)


def place_behind(block, path):
    """Return the place where a run goes on behind the statement with this path."""
    following = path_after(path)
    if statement_with(block, following) is not None:
        return place_of(following)
    if len(path) == 1:
        return "out"
    around = path[:-2]
    if statement_with(block, around)[0] == "while":
        return place_of(around)
    return place_behind(block, around)
