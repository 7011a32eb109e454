"""A totalisator's day, layer a: cards."""
