"""Volumes in the form of NTFS, read strictly."""
