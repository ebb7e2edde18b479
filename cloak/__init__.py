"""Cloak: passes that tell nothing else."""
