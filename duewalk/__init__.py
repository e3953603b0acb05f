"""Duewalk: places that must be seen to in time, for ever."""
