"""A module while it is put together: which names are taken, and which kinds can be told."""

from nomoreseen.values import is_name, is_row, is_size


class Draft:
    """Takes the parts of a module one behind another; what is not taken fits no module with them."""

    def __init__(self):
        self.taken = {}
        self.own = {}
        self.foreign = {}
        self.cells = {}
        self.outs = {}
        self.held = {}
        self.kind_back = None

    def kind(self, value):
        """The kind that this value tells, as a tuple; None if it is none of this module."""
        if not is_row(value, 2):
            return None
        word, what = value
        if word == "num" and is_size(what):
            return ("num", what)
        if word == "thing" and isinstance(what, str) and (what in self.own or what in self.foreign):
            return ("thing", what)
        return None

    def takes_name(self, name):
        """Whether this name is free for a class, a cell, an out or an entry; it no longer is."""
        if not is_name(name) or name in self.taken:
            return False
        self.taken[name] = True
        return True

    def takes_class(self, value):
        """Takes (name, n) of an own class."""
        if not is_row(value, 2) or not is_size(value[1]) or not self.takes_name(value[0]):
            return False
        self.own[value[0]] = value[1]
        return True

    def takes_foreign(self, name):
        """Takes the name of a foreign class."""
        if not self.takes_name(name):
            return False
        self.foreign[name] = True
        return True

    def takes_cell(self, value):
        """Takes (name, kind, is secret) of a cell."""
        if not is_row(value, 3) or not isinstance(value[2], bool):
            return False
        kind = self.kind(value[1])
        if kind is None or (value[2] and kind[0] != "num") or not self.takes_name(value[0]):
            return False
        self.cells[value[0]] = kind
        return True

    def takes_out(self, value):
        """Takes (name, kind in, kind back) of an out."""
        if not is_row(value, 3):
            return False
        kinds = (self.kind(value[1]), self.kind(value[2]))
        if None in kinds or not self.takes_name(value[0]):
            return False
        self.outs[value[0]] = kinds
        return True

    def takes_entry(self, name, parameter, told_in, told_back):
        """Takes the first parts of an entry, whose locals and rows come next."""
        kind_in = self.kind(told_in)
        self.kind_back = self.kind(told_back)
        if kind_in is None or self.kind_back is None or not self.takes_name(name):
            return False
        self.held = {cell: self.cells[cell] for cell in self.cells}
        return self._takes_variable(parameter, kind_in)

    def takes_local(self, value):
        """Takes (name, kind) of a local of the newest entry."""
        if not is_row(value, 2):
            return False
        kind = self.kind(value[1])
        return kind is not None and self._takes_variable(value[0], kind)

    def _takes_variable(self, name, kind):
        # Variables may be called as classes, outs and entries are: only those of this entry count.
        if not is_name(name) or name in self.held:
            return False
        self.held[name] = kind
        return True

    def kind_at(self, name):
        """The kind of this variable of the newest entry, None if it is none (any value)."""
        return self.held[name] if isinstance(name, str) and name in self.held else None

    def size_at(self, name):
        """The n of a variable with numbers; 0 for anything else."""
        kind = self.kind_at(name)
        return kind[1] if kind is not None and kind[0] == "num" else 0

    def field_size_at(self, name):
        """The n of the own class of a variable with things; 0 for anything else."""
        kind = self.kind_at(name)
        return self.own.get(kind[1], 0) if kind is not None and kind[0] == "thing" else 0
