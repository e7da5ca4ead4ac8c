"""Lapfold: laps that fall, written into folds, their turns told exactly."""
