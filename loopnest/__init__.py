"""Nest: loops turned about. The way in is answers in loopnest.desk."""
