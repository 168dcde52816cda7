"""Trunksay: what is said of trees, and the machines that tell whether it is so."""
