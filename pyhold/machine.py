"""Machines: what a run is made of."""


class Machine:
    """What a run does next, and all that it has."""

    def __init__(self, control, frames, heap, out, active, here, line, steps):
        self.control = control
        self.frames = frames
        self.heap = heap
        self.out = out
        self.active = active
        self.here = here
        self.line = line
        self.steps = steps
