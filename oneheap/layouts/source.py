"""Sources over the rows of a layout."""

from oneheap.objects.source import PictureSource


class RowSource(PictureSource):
    """A source of one version, over the picture that rows of a layout show."""

    def __init__(self, layout, rows, version):
        heap, _ = layout.read(rows)
        PictureSource.__init__(self, heap.picture_of(version))
