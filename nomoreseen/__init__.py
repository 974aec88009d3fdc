"""Modules of a small language, and what strangers in machine code see of them."""
