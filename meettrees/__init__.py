"""Meettrees: one file tree on many machines that are seldom joined, whose plugs are pulled."""
