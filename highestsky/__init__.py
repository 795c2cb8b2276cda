"""Highestsky: one highest sky for all that is said of the swell on a grid."""
