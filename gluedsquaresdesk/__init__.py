"""Straight ways for ever, on surfaces of glued squares."""
