"""Tops of patchwork: moved by turns and mirrors, and what keeps them."""
