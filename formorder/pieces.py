"""A text that comes in pieces."""


class Pieces:
    def __init__(self, form):
        self.form = form
        self.come = []
