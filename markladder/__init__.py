"""Markladder: who can lay right marks on all trees, and how few values are enough to check them."""
