"""Beamtender: weights put on a beam that may never tip too far."""
