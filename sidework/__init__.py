"""Sidework: works that part and meet, and hands that share them."""
