"""Views of labels in the eight orientations, and several views merged."""

from squaremark.errors import FrameNotFound, InvalidCount, InvalidImage, InvalidView
from squaremark.labels import decode_label
from squaremark.layout import DARK, LIGHT, UNKNOWN, frame_image, require_image


def rotate(image):
    """Return the image rotated clockwise by 90 degrees."""
    require_image(image)
    return _rotated(image)


def mirror(image):
    """Return the image with each row reversed."""
    require_image(image)
    return _mirrored(image)


def orientations(image):
    """Return the list of the eight views of an image."""
    require_image(image)
    return _rotations(image) + _rotations(_mirrored(image))


def frame_errors(image):
    """Return the number of known frame cells that differ from the frame."""
    require_image(image)
    return len(_conflicting_cells([image, frame_image(len(image))]))


def normalize(view):
    """Return the orientation of a view, and the image that has this view."""
    views = orientations(view)
    # One rotation is undone by three, and each orientation from 4 to 7 undoes itself.
    candidates = [views[0], views[3], views[2], views[1]] + views[4:]
    errors = [frame_errors(image) for image in candidates]
    if errors.count(min(errors)) > 1:
        raise FrameNotFound("several orientations have the fewest frame errors")
    orientation = errors.index(min(errors))
    return orientation, candidates[orientation]


def decode_any(view):
    """Return what `decode_label` returns for the normalized image of a view."""
    _, image = normalize(view)
    return decode_label(image)


def merge(views):
    """Return the normalized image that merges a list of views."""
    images = _normalize_all(views)
    return tuple([_merge_row(images, row) for row in range(len(images[0]))])


def conflicts(views):
    """Return the list of cells that are dark in one view and light in another."""
    return _conflicting_cells(_normalize_all(views))


def _rotated(image):
    # The columns, read from the bottom to the top, become the rows.
    return tuple(["".join(column)[::-1] for column in zip(*image)])


def _mirrored(image):
    return tuple([row[::-1] for row in image])


def _rotations(image):
    """Return the list of an image rotated 0 to 3 times."""
    views = [image]
    for _ in range(3):
        views.append(_rotated(views[-1]))
    return views


def _normalize_all(views):
    """Return the list of the normalized images of views, all with the same side."""
    if not isinstance(views, list) or not views:
        raise InvalidCount("the views must be a list that is not empty")
    images = []
    for index, view in enumerate(views):
        try:
            _, image = normalize(view)
        except (InvalidImage, FrameNotFound):
            raise InvalidView(index) from None
        images.append(image)
        if len(image) != len(images[0]):
            raise InvalidView(index)
    return images


def _cells_at(images, row, column):
    return [image[row][column] for image in images]


def _merge_row(images, row):
    return "".join([_merge_cell(images, row, column) for column in range(len(images[0]))])


def _merge_cell(images, row, column):
    cells = _cells_at(images, row, column)
    balance = cells.count(DARK) - cells.count(LIGHT)
    if balance == 0:
        return UNKNOWN
    return DARK if balance > 0 else LIGHT


def _conflicting_cells(images):
    """Return the cells that are dark in one image and light in another, in ascending order."""
    found = []
    for row in range(len(images[0])):
        for column in range(len(images[0])):
            cells = _cells_at(images, row, column)
            if DARK in cells and LIGHT in cells:
                found.append((row, column))
    return found
