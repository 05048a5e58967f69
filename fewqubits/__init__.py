"""Circuits of a few qubits, worked out exactly."""
