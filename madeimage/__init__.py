"""Reads modules strictly, tells the first thing that is wrong, or makes instructions of them."""
