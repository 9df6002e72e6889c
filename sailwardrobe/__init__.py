"""Wardrobes of sails: which sails are bought, for the least."""
