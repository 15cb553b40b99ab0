"""Cells formed under a peak: trays on channels, minute by minute."""
