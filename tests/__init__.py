"""Tests of versiontables."""
