"""Invitations and answers that cross."""
