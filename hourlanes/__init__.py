"""Hourlanes: streams let in and let go on shared lanes, each piece out at its hour."""
