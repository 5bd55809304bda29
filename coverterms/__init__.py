"""Coverterms: who pays when a part fails."""
