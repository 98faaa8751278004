"""Errands' texts: what a row of numbers tells, and where it ceases to tell anything."""
