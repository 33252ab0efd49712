"""Pilereach: machines with one pile."""
