"""Millhands: one web that many hands lay letters on, told by what is read from its end."""
