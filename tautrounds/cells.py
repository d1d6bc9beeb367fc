"""What strands and chords leave of a skin: cells of the disc, and strips of the bands between them.

A strip's end is told by a pair (end, at): it comes to the disc at this end, with at strands ahead of it there.
"""

from tautrounds.drawings import Layout
from tautrounds.skins import end_behind, rims
from tautrounds.words import gone_back


class Mesh:
    """The cells of a drawing that come to the disc's edge, with the strips that lead from cells to cells."""

    def __init__(self, drawing):
        self.skin = drawing.skin
        self.many = [len(row) for row in drawing.rows]
        self.starts = {}
        self.chords = []
        self.begins = []
        self._note_points(Layout(drawing))
        self.partners = self._partners()
        self.arcs = self._cells_of_arcs()
        self.strips = [[] for _ in range(max(self.arcs) + 1)]
        for end in self.skin.row:
            for at in range(self.many[end // 2] + 1):
                self.strips[self.cell((end, at))].append((end, at))
        self.rim_at = {end: place for place, rim in enumerate(rims(self.skin)) for end in rim}

    def _note_points(self, layout):
        """Notes each point of the disc's edge at which a chord ends, counterclockwise.

        starts tells how many stand ahead of each end; chords tells the strand with which the chord begins, and
        begins whether the chord begins at this point.
        """
        for end in layout.skin.row:
            self.starts[end] = len(self.chords)
            row = layout.rows[end // 2]
            for strand in row if end % 2 == 0 else row[::-1]:
                self.chords.append(layout.begun(strand, end))
                self.begins.append(layout.letter(strand) != end)

    def _partners(self):
        """For each point the one at which its chord has its other end."""
        first = {}
        partners = [0] * len(self.chords)
        for point, strand in enumerate(self.chords):
            if strand in first:
                partners[point] = first[strand]
                partners[first[strand]] = point
            else:
                first[strand] = point
        return partners

    def _cells_of_arcs(self):
        """The cell of each arc of the disc's edge: the one ahead of the point of this number.

        Two arcs are in one cell exactly if no chord parts them: so they lie on the same side of each chord.
        """
        spans = [(low, high) for low, high in enumerate(self.partners) if low < high]
        names = {}
        arcs = []
        for arc in range(max(1, len(self.partners))):
            sides = tuple([low < arc <= high for low, high in spans])
            if sides not in names:
                names[sides] = len(names)
            arcs.append(names[sides])
        return arcs

    def cell(self, strip):
        """The cell to which a strip's end comes."""
        end, at = strip
        return self.arcs[(self.starts[end] + at) % len(self.arcs)]

    def across(self, strip):
        """The other end of the strip: bands are flat."""
        end, at = strip
        return end ^ 1, self.many[end // 2] - at

    def beside(self, strip):
        """Of drawings in which nothing crosses: what comes behind a strip's end as one goes round its cell.

        The cell lies on the left. Told are a label and the next strip's end: the label is ("rim", index), or
        ("left", place) or ("right", place) for that side of a round.
        """
        end, at = strip
        if at == self.many[end // 2]:
            behind = end_behind(self.skin, end, 1)
            return ("rim", self.rim_at[behind]), (behind, 0)
        point = self.starts[end] + at
        label = ("left" if self.begins[point] else "right", self.chords[point][0])
        return label, self._strip_behind(self.partners[point])

    def _strip_behind(self, point):
        """The strip's end right behind a point."""
        end = [other for other in self.skin.row if self.starts[other] <= point][-1]
        return end, point - self.starts[end] + 1


class Piece:
    """Cells that hang together: words tells how one comes to each from the first one.

    tree has both ends of each strip that these words need, extra the even end of each other strip.
    """

    def __init__(self, mesh, first):
        self.mesh = mesh
        self.words = {first: ()}
        self.tree = {}
        reached = [first]
        while reached:
            reached = self._grown(reached)
        self.extra = [
            strip
            for cell in self.words
            for strip in mesh.strips[cell]
            if strip[0] % 2 == 0 and strip not in self.tree
        ]

    def _grown(self, reached):
        """The new cells to which strips lead from these."""
        grown = []
        for cell in reached:
            for strip in self.mesh.strips[cell]:
                other = self.mesh.across(strip)
                beyond = self.mesh.cell(other)
                if beyond not in self.words:
                    self.words[beyond] = self.words[cell] + (strip[0],)
                    self.tree[strip] = True
                    self.tree[other] = True
                    grown.append(beyond)
        return grown

    def way_along(self, strip):
        """The letters from the first cell along this strip, and back to the first cell."""
        there = self.words[self.mesh.cell(strip)]
        back = gone_back(self.words[self.mesh.cell(self.mesh.across(strip))])
        return there + (strip[0],) + back

    def number(self):
        """How many cells it has, less how many strips: the tree has a strip less than there are cells."""
        return 1 - len(self.extra)

    def rim_places(self):
        """The ascending tuple of the indexes of the rims at its edge."""
        found = set()
        for end in self.mesh.skin.row:
            if self.mesh.cell((end, 0)) in self.words:
                found.add(self.mesh.rim_at[end])
        return tuple(sorted(found))


def pieces_of(drawing):
    """All pieces of a drawing that come to the disc's edge."""
    mesh = Mesh(drawing)
    found = []
    seen = set()
    for cell in range(len(mesh.strips)):
        if cell not in seen:
            piece = Piece(mesh, cell)
            found.append(piece)
            for other in piece.words:
                seen.add(other)
    return found
