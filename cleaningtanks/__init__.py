"""Tanks for cleaning: how many are enough, and which lot lies in which."""
