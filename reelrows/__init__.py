"""Reelrows: tapes with labels, files over several reels."""
