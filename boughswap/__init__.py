"""Boughswap: trees by a rule of their own, racks of trees, and turnings that lose nothing."""
