"""Bytes packed by sorting their turns, in the format of bzip2."""
