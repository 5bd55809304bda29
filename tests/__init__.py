"""Tests of coverterms."""
