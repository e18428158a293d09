"""Costorder: who pays for a quarrel at court, in parts, through all its rounds."""
