"""What keys and headers may and may not come to."""

from settingsbook.refusals import WrongInput
from settingsbook.things import BY_HEADER, BY_KEYS, COME_BY, IN_PLACE, Array, Table


def put_value(table, parts, thing):
    """Puts a key's value at its last part."""
    target = table
    for part in parts[:-1]:
        target = table_by_key(target, part)
    if parts[-1] in target.entries:
        raise WrongInput()
    target.entries[parts[-1]] = thing


def table_by_key(table, part):
    if part not in table.entries:
        return new_table(table, part, BY_KEYS)
    found = table.entries[part]
    if isinstance(found, Table) and found.made == BY_KEYS:
        return found
    raise WrongInput()


def new_table(table, part, made):
    made_one = Table(made)
    table.entries[part] = made_one
    return made_one


def come_to_table(root, parts):
    """The table to which the header [ ] comes."""
    table = go_along(root, parts[:-1])
    if parts[-1] not in table.entries:
        return new_table(table, parts[-1], BY_HEADER)
    found = table.entries[parts[-1]]
    if isinstance(found, Table) and found.made == COME_BY:
        found.made = BY_HEADER
        return found
    raise WrongInput()


def come_to_member(root, parts):
    """The new table to which the header [[ ]] comes."""
    table = go_along(root, parts[:-1])
    if parts[-1] not in table.entries:
        table.entries[parts[-1]] = Array([], True)
    found = table.entries[parts[-1]]
    if not is_array_by_headers(found):
        raise WrongInput()
    member = Table(BY_HEADER)
    found.members.append(member)
    return member


def is_array_by_headers(thing):
    return isinstance(thing, Array) and thing.by_headers


def go_along(root, parts):
    table = root
    for part in parts:
        table = table_on_way(table, part)
    return table


def table_on_way(table, part):
    if part not in table.entries:
        return new_table(table, part, COME_BY)
    found = table.entries[part]
    if is_array_by_headers(found):
        return found.members[-1]
    if isinstance(found, Table) and found.made != IN_PLACE:
        return found
    raise WrongInput()
