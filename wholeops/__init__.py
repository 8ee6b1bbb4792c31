"""Whole-number operations of a processor, with all their flags."""
