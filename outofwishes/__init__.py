"""Whole numbers wished for, the programs that grant it, and papers for every none."""
