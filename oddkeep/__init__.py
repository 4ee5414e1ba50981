"""Oddkeep: games of chance for two players, worked out exactly."""
