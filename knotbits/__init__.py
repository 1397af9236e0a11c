"""Knotbits: trees pressed into two bits a knot."""
