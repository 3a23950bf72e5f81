"""Treewalks: binary trees told by the orders of their nodes."""
