"""Keys to pipes: which pipes of an organ speak."""
