"""Roles doubled: who of a company plays which roles of a play."""
