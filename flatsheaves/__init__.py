"""Flatsheaves: nested sequences, flattened into straight programs of whole-vector instructions."""
