"""Fewtests: few test words show whether two programs that build texts always write the same."""
