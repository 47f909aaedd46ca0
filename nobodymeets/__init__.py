"""Nobodymeets: a warehouse of robots that never meet."""
