"""Chooseonce: tables that tell what choosing once would tell."""
