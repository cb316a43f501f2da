"""Light through lenses, told to the last bit."""
