"""Quietsums: what groups learn when parties send sums to each other."""
