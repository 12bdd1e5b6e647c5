"""The lightest choice of sections, and trees that show that nothing lighter stands."""
