"""Branchway: a tree of states with branches, and the ways between them."""
