"""Tests of dominotable."""
