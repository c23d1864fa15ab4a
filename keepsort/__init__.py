"""Keepsort: sorting the rows and columns of tables with holes."""
