"""Stackedputs: stores whose writes are merged ahead of their base."""
