"""Treeshed: trees that calls, branches and versions share."""
