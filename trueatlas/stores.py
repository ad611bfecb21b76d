"""Stores: tiles that were drawn are kept, as long as no change of the map can touch them."""

from trueatlas.checks import need
from trueatlas.shapes import is_map
from trueatlas.styles import is_style
from trueatlas.tiles import bounds_touched, is_tile, picture_of_tile


def is_in_one(tile, bounds_by_scale):
    """Whether a tile lies between one of the bounds that are told for its scale."""
    scale, column, row = tile
    return any(left <= column <= right and low <= row <= high for left, right, low, high in bounds_by_scale[scale])


class Store:
    """The tiles of a map that changes, in a style that stays."""

    def __init__(self, map_things, style):
        need(is_map(map_things), "map_things")
        need(is_style(style), "style")
        self._map_things = map_things
        self._style = style
        self._sheets = {}
        self._many_drawn = 0

    def picture_of(self, tile):
        """The picture of the tile, a sheet; it is drawn if it is not kept."""
        need(is_tile(tile), "tile")
        if tile not in self._sheets:
            self._sheets[tile] = picture_of_tile(self._map_things, self._style, tile)
            self._many_drawn += 1
        return self._sheets[tile]

    def put(self, map_things):
        """Take another map, and tell how many of the kept tiles are dropped for it."""
        need(is_map(map_things), "map_things")
        scales = sorted({tile[0] for tile in self._sheets})
        bounds = {scale: bounds_touched(self._map_things, map_things, self._style, scale) for scale in scales}
        left = {tile: self._sheets[tile] for tile in self._sheets if not is_in_one(tile, bounds)}
        many = len(self._sheets) - len(left)
        self._map_things = map_things
        self._sheets = left
        return many

    def kept(self):
        """The kept tiles in ascending order."""
        return sorted(list(self._sheets))

    def drawn(self):
        """How many tiles were drawn since the store was made."""
        return self._many_drawn
