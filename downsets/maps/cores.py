"""Cores of an order, and maps of an order into itself."""

from downsets.base.checks import all_bits, has_bit, has_just_keys, is_place_of, lot_of, own_rows, spots
from downsets.base.orders import MAX_PLACES, are_names, beyond, is_pair, need_order
from downsets.errors import InvalidOperation, TooMany
from downsets.maps.signs import whole_sign


def loose(order):
    """Return the dict from the loose places to the lots of their holders."""
    need_order(order)
    whole = all_bits(len(order))
    found = {}
    for k in range(len(order)):
        held = holder_spots(order, whole, k)
        if held:
            found[order.places[k]] = tuple([order.places[at] for at in held])
    return found


def is_row(order, value):
    """Tell whether a value is a row of takings."""
    need_order(order)
    return bits_behind(order, value) is not None


def is_whole(order, value):
    """Tell whether a value is a row of takings behind which no place is loose."""
    need_order(order)
    left = bits_behind(order, value)
    return left is not None and first_taking(order, left) is None


def core(order):
    """Return the order that is left behind a whole row of takings, and this row."""
    need_order(order)
    left = all_bits(len(order))
    row = []
    taking = first_taking(order, left)
    while taking is not None:
        at, held = taking
        row.append((order.places[at], order.places[held]))
        left = left ^ (1 << at)
        taking = first_taking(order, left)
    return (order.within(lot_of(order.places, left)), tuple(row))


def led(order, row):
    """Return the map that leads each place from holder to holder, up to one that is not taken."""
    need_order(order)
    if bits_behind(order, row) is None:
        raise InvalidOperation("no row of takings")
    images = {place: place for place in order}
    # A holder is taken behind what it holds, so that its own image is known.
    for place, holder in row[::-1]:
        images[place] = images[holder]
    return images


def naming(order, target):
    """Return a dict by which two orders are alike but for their names, or None."""
    need_order(order)
    need_order(target)
    need_short(order)
    need_short(target)
    row = naming_row(order, target, []) if len(order) == len(target) else None
    if row is None:
        return None
    return {order.places[k]: target.places[row[k]] for k in range(len(row))}


def is_naming(order, target, value):
    """Tell whether a value is a dict by which two orders are alike but for their names."""
    need_order(order)
    need_order(target)
    return are_names(order.places, value) and order.renamed(value) == target


def is_map(order, value):
    """Tell whether a value is a map of the order."""
    need_order(order)
    if not has_just_keys(order.places, value):
        return False
    if not all([is_place_of(order.places, value[place]) for place in order]):
        return False
    row = image_row(order, value)
    ahead = own_rows(order.ahead_bits)
    return all([has_bit(ahead[row[k]], row[at]) for k in range(len(row)) for at in spots(order.ahead_bits[k])])


def maps(order):
    """Generate all maps, ascending by their images."""
    need_order(order)
    need_short(order)
    choices = [all_bits(len(order))] * len(order)
    for row in image_rows(order, choices, ()):
        yield images_of(order, row)


def maps_number(order):
    """Return how many maps there are.

    Places come in one by one. What counts of those that are in are the images
    of the open ones, which a step joins to a place that is not in.
    """
    need_order(order)
    need_short(order)
    near = step_neighbours(order)
    counts = {(): 1}
    opened = []
    left = all_bits(len(order))
    while left:
        _, at = min([(len(still_open(near, opened + [k], left ^ (1 << k))), k) for k in spots(left)])
        left = left ^ (1 << at)
        kept = still_open(near, opened + [at], left)
        counts = counts_with(order, counts, opened + [at], kept)
        opened = kept
    return counts[()]


def fixed(order, images):
    """Return the lot of the places that are their own images."""
    need_map(order, images)
    return tuple([place for place in order if images[place] == place])


def fixed_sign(order, images):
    """Return the whole sign of the order within the fixed places, or -1 without such."""
    lot = fixed(order, images)
    return whole_sign(order.within(lot)) if lot else -1


def does_precede(order, images, value):
    """Tell whether a value is a map that another map is at most."""
    need_map(order, images)
    if not is_map(order, value):
        return False
    behind = own_rows(order.behind_bits)
    early = image_row(order, images)
    late = image_row(order, value)
    return all([has_bit(behind[early[k]], late[k]) for k in range(len(early))])


def followed(order, images, others):
    """Return the map that leads each place by a first map, and from there by a second one."""
    need_map(order, images)
    need_map(order, others)
    return {place: others[images[place]] for place in order}


def free_map(order):
    """Return a map without a fixed place, or None."""
    need_order(order)
    need_short(order)
    whole = all_bits(len(order))
    choices = [whole ^ (1 << k) for k in range(len(order))]
    # With a core of one place each map has a fixed place; a search would have
    # to go through all of them.
    if len(core(order)[0]) > 1:
        for row in image_rows(order, choices, ()):
            return images_of(order, row)
    return None


def need_short(order):
    """Refuse an order with more than seven places."""
    if len(order) > MAX_PLACES:
        raise TooMany(MAX_PLACES)


def need_map(order, images):
    """Refuse what is no order, and what is no map of it."""
    if not is_map(order, images):
        raise InvalidOperation("no map of the order")


def only_step(rows, left, at):
    """Return the list of what the only step on one side of a place leads to within a lot, or none."""
    near = rows[at] & left
    ends = spots(near & ~beyond(rows, near))
    return ends if len(ends) == 1 else []


def holder_spots(order, left, at):
    """Return the ascending indices of the holders of a place in the order within a lot."""
    return sorted(only_step(order.ahead_bits, left, at) + only_step(order.behind_bits, left, at))


def first_taking(order, left):
    """Return the indices of a loose place of the order within a lot and of a holder, or None."""
    for k in spots(left):
        held = holder_spots(order, left, k)
        if held:
            return (k, held[0])
    return None


def bits_behind(order, value):
    """Return the bits of the places that a row of takings leaves, or None if it is none."""
    if not isinstance(value, tuple) or not all([is_pair(order.places, pair) for pair in value]):
        return None
    left = all_bits(len(order))
    for place, holder in value:
        at = order.places.index(place)
        if not has_bit(left, at) or order.places.index(holder) not in holder_spots(order, left, at):
            return None
        left = left ^ (1 << at)
    return left


def naming_row(order, target, row):
    """Return a full row of indices of the places of a second order that begins with a row, or None."""
    if len(row) == len(order):
        return row
    for k in range(len(target)):
        if k not in row and does_stand_alike(order, target, row, k):
            found = naming_row(order, target, row + [k])
            if found is not None:
                return found
    return None


def does_stand_alike(order, target, row, last):
    """Tell whether the next place stands to those of a row as its value stands to theirs."""
    at = len(row)
    return all([
        has_bit(order.ahead_bits[at], k) == has_bit(target.ahead_bits[last], row[k])
        and has_bit(order.behind_bits[at], k) == has_bit(target.behind_bits[last], row[k]) for k in range(at)
    ])


def image_row(order, images):
    """Return the indices of the images of the places."""
    return [order.places.index(images[place]) for place in order]


def images_of(order, row):
    """Return the map with images told by their indices."""
    return {order.places[k]: order.places[row[k]] for k in range(len(row))}


def image_rows(order, choices, row):
    """Generate the images of all maps that begin with a row, by their indices, ascending.

    The choices have the bits of the images that each place can have.
    """
    at = len(row)
    if at == len(order):
        yield row
        return
    for image in spots(choices[at]):
        narrower = narrowed(order, choices, at, image)
        longer = row + (image,)
        if 0 not in narrower:
            yield from image_rows(order, narrower, longer)


def narrowed(order, choices, at, image):
    """Return the choices that are left if a place has an image."""
    found = []
    for k in range(len(choices)):
        if has_bit(order.behind_bits[at], k):
            found.append(choices[k] & (order.behind_bits[image] | (1 << image)))
        elif has_bit(order.ahead_bits[at], k):
            found.append(choices[k] & (order.ahead_bits[image] | (1 << image)))
        else:
            found.append(choices[k])
    return found


def step_neighbours(order):
    """Return for each place the bits of those that a step leads to or from."""
    near = [0] * len(order)
    for one, other in order.steps:
        k, at = order.places.index(one), order.places.index(other)
        near[k] = near[k] | (1 << at)
        near[at] = near[at] | (1 << k)
    return near


def still_open(near, opened, left):
    """Return those of some places that a step joins to a place that is left."""
    return [k for k in opened if near[k] & left != 0]


def counts_with(order, counts, places, kept):
    """Return the numbers of maps of the places that are in, by the images of the kept ones.

    The numbers that are passed are told by the images of all places but the last.
    """
    stays = [k for k in range(len(places)) if places[k] in kept]
    found = {}
    for images in counts:
        for image in spots(choice_behind(order, places, images)):
            row = images + (image,)
            key = tuple([row[k] for k in stays])
            found[key] = found.get(key, 0) + counts[images]
    return found


def choice_behind(order, places, images):
    """Return the bits of the images that the last place can have behind those of the others."""
    choices = [all_bits(len(order))] * len(order)
    for k in range(len(images)):
        choices = narrowed(order, choices, places[k], images[k])
    return choices[places[-1]]
