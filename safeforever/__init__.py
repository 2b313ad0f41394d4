"""Safe for ever: whether a machine of a few bits ever comes to a bad state."""
