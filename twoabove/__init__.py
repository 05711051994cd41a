"""Two above: shelves filled where least is, and emptied where most is."""
