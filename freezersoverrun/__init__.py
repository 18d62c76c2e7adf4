"""Freezers by overrun: mix is fed into barrels, air is beaten in, what was fed first comes out first."""
